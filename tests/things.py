"""Things of all kinds, to be passed where an error is named for an argument."""

from guessedworlds import errors
from guessedworlds.games import Game, Kind
from guessedworlds.grounds import Ground
from guessedworlds.programs import Program

DEEP = 40
MANY = 19000


def nested(wrap, core):
    """A thing with others inside it, 40 deep."""
    thing = core
    for _ in range(DEEP):
        thing = wrap(thing)
    return thing


def right_ground():
    return Ground(("....", "####"))


def right_game():
    return Game(1, right_ground(), (Kind(8, 8, True, 0, None),), ((0, 0, 0, 0), (0, 20, 0, -1)))


def plain_things():
    """Nothing, flags, integers and strings."""
    return [
        None, True, False, 0, 1, -1, 2, 8, 31, 41, 2 ** 31 - 1, 2 ** 31, -2 ** 31, -2 ** 31 - 1,
        10 ** 20 - 1, 1 - 10 ** 20, "", ".", "#", "tick", "1", "x", "number", "\n", "." * 20000,
    ]


def gathered_things():
    """Tuples, lists and dicts, deep and long ones too."""
    return [
        (), (1,), (True,), (None,), ("tick",), ("gone",), (("gone",),), ("number", 1), ("name", "x"),
        (0, 0, 0, 0), ("....", "####"), (".",), ("x", ()), [], [1], ["."], ["....", "####"], [["gone"]],
        ["number", 1], {}, {1: 2}, {"tick": 1}, {"tick": []}, {(1, "a"): ()}, {None: {}}, {"": ""},
        nested(lambda thing: (thing,), 1), nested(lambda thing: [thing], "."),
        nested(lambda thing: {"tick": thing}, ()), nested(lambda thing: ("not", thing), ("number", 1)),
        nested(lambda thing: ("add", ("number", 1), thing), ("number", 1)),
        nested(lambda thing: (("while", ("number", 1), thing),), ()),
        (1,) * MANY, [1] * MANY, (".",) * MANY, (("gone",),) * 9000, {at: at for at in range(9000)},
    ]


def other_things():
    """Objects of other built-in kinds, and of classes of the package."""
    return [
        b"", b"tick", bytearray(b"."), memoryview(b"."), range(3), slice(1), object(), int, str, tuple,
        Ground, len, lambda: 1, Ellipsis, NotImplemented, iter(()), (at for at in ()), {}.keys(),
        {1: 2}.items(), zip(), ValueError("x"), errors.NoSeed(), errors.BadGround([1]),
        right_ground(), Kind(1, 1, False, 0, None), Program({}), right_game(),
    ]


def all_things():
    return plain_things() + gathered_things() + other_things()


def raised(call, *arguments):
    """The pair of the class of the error that a call raises and its fields, None if it raises none."""
    try:
        call(*arguments)
    except errors.WorldError as error:
        return (error.__class__, vars(error))
    return None


def only_named(case, call, error, fits):
    """Checks that a call takes what fits, and raises just this error, as raised tells it, for all else."""
    for thing in all_things():
        with case.subTest(thing=repr(thing)[:60]):
            case.assertEqual(raised(call, thing), None if fits(thing) else error)


def is_whole(thing):
    return isinstance(thing, int) and not isinstance(thing, bool)


def is_from(least, most):
    """A judge of integers from the least to the most."""
    return lambda thing: is_whole(thing) and least <= thing <= most
