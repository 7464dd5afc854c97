"""Things of all kinds, to be passed where an error is named for an argument."""

from guessedworlds import errors
from guessedworlds.books import Book, rebuilt
from guessedworlds.branches import Branches
from guessedworlds.desks import Desk
from guessedworlds.disks import Disk
from guessedworlds.games import Game, Kind
from guessedworlds.grounds import Ground, sign_at
from guessedworlds.hosts import Host
from guessedworlds.nets import Net
from guessedworlds.numbers import drawn, wrapped
from guessedworlds.peers import Peer
from guessedworlds.pictures import Screen
from guessedworlds.programs import Program
from guessedworlds.reels import Reel
from guessedworlds.replays import Replay
from guessedworlds.savings import SavedHost, SavedPeer
from guessedworlds.standings import Standing
from guessedworlds.timelines import Timeline
from guessedworlds.worlds import World, first_world

DEEP = 40
MANY = 19000


def nested(wrap, core):
    """A thing with others inside it, 40 deep."""
    thing = core
    for _ in range(DEEP):
        thing = wrap(thing)
    return thing


def right_ground():
    return Ground(("....", "####"))


def right_game():
    return Game(1, right_ground(), (Kind(8, 8, True, 0, None),), ((0, 0, 0, 0), (0, 20, 0, -1)))


def right_world():
    """A world of the right game."""
    return first_world(right_game(), 7)


def with_part(parts, at, thing):
    """A tuple with a thing in the place of one part."""
    return parts[:at] + (thing,) + parts[at + 1:]


def plain_things():
    """Nothing, flags, integers and strings."""
    return [
        None, True, False, 0, 1, -1, 2, 8, 31, 41, 2 ** 31 - 1, 2 ** 31, -2 ** 31, -2 ** 31 - 1,
        10 ** 20 - 1, 1 - 10 ** 20, "", ".", "#", "tick", "1", "x", "number", "\n", "." * 20000,
    ]


def gathered_things():
    """Tuples, lists and dicts, deep and long ones too."""
    return [
        ("open", 0, 0), ("tell", 0, 0, (1,)), ("close", 0), [("shut", 0)], (("tell", 0, 0, (1,)),), ((0, 0, 0),) * 6000,
        ("say", 0, None, (0, 0), 0, (), 0, 0, ()),
        (), (1,), (True,), (None,), ("tick",), ("gone",), (("gone",),), ("number", 1), ("name", "x"),
        (0, 0, 0, 0), ("....", "####"), (".",), ("x", ()), [], [1], ["."], ["....", "####"], [["gone"]],
        ["number", 1], {}, {1: 2}, {"tick": 1}, {"tick": []}, {(1, "a"): ()}, {None: {}}, {"": ""},
        nested(lambda thing: (thing,), 1), nested(lambda thing: [thing], "."),
        nested(lambda thing: {"tick": thing}, ()), nested(lambda thing: ("not", thing), ("number", 1)),
        nested(lambda thing: ("add", ("number", 1), thing), ("number", 1)),
        nested(lambda thing: (("while", ("number", 1), thing),), ()),
        (1,) * MANY, [1] * MANY, (".",) * MANY, (("gone",),) * 9000, {at: at for at in range(9000)},
    ]


def other_things():
    """Objects of other built-in kinds, and of classes of the package."""
    return [
        b"", b"tick", bytearray(b"."), memoryview(b"."), range(3), slice(1), object(), int, str, tuple,
        Ground, len, lambda: 1, Ellipsis, NotImplemented, iter(()), (at for at in ()), {}.keys(),
        {1: 2}.items(), zip(), ValueError("x"), errors.NoSeed(), errors.BadGround([1]),
        right_ground(), Kind(1, 1, False, 0, None), Program({}), right_game(), right_world(),
        World(None, {}, [], (), "", b""), Standing(0, 1, (0,) * 8, (), (), (), ()), World,
        Book(2), rebuilt(1, [("open", 0, 0), ("tell", 0, 0, (1,))]), Host(right_game(), 7, 0, None),
        Timeline(right_game(), right_world(), 4), (Book(1),), [right_world()], {"tick": Book(1)},
        Peer(right_game(), 7, 0, 5, 0, (2, 8, 4, 60), None), Net(right_game(), 7, 0, (2, 8, 4, 60)), Net, Disk(),
        Desk(),
        SavedHost(right_game(), 7, 0, Disk()), SavedPeer(right_game(), 7, 0, 5, 0, (2, 8, 4, 60), Disk()), Disk, Replay,
        Replay(right_game(), 7, 4, ((1,),)), Reel(Replay(right_game(), 7, 4, ())), Branches(right_game(), 7),
        Screen(right_game()), [Disk()], (Replay(right_game(), 7, 1, ()),),
        nested(lambda thing: World(thing, thing.seed, (), 0, (), ()), right_world()),
    ]


def all_things():
    return plain_things() + gathered_things() + other_things()


def raised(call, *arguments):
    """The pair of the class of the error that a call raises and its fields, None if it raises none."""
    try:
        call(*arguments)
    except errors.WorldError as error:
        return (error.__class__, vars(error))
    return None


def only_named(case, call, error, fits):
    """Checks that a call takes what fits, and raises just this error, as raised tells it, for all else."""
    for thing in all_things():
        with case.subTest(thing=repr(thing)[:60]):
            case.assertEqual(raised(call, thing), None if fits(thing) else error)


def is_whole(thing):
    return isinstance(thing, int) and not isinstance(thing, bool)


def is_row(thing):
    """Whether a thing is a row, as the document tells it."""
    return isinstance(thing, tuple) and len(thing) <= 300000 and all([is_from(0, 255)(byte) for byte in thing])


def is_from(least, most):
    """A judge of integers from the least to the most."""
    return lambda thing: is_whole(thing) and least <= thing <= most


def num(number):
    return ("number", number)


def name(word):
    return ("name", word)


NAMES = "x y dx dy tick id owner buttons other side c0 c1 c2 c3 s0 s1 s2 s3 s4 s5 s6 s7".split()
SETS = "dx dy c0 c1 c2 c3 s0 s1 s2 s3 s4 s5 s6 s7".split()
WITH_ONE = "not minus draw press kind left top".split()
WITH_TWO = "add sub mul div rest less same and or cell".split()
EDGES = (0, 1, -1, 2, 3, 5, 7, 8, 16, -16, 17, 20, 100, 2 ** 31 - 1, -2 ** 31)


def grown_expression(chance, deep):
    """A right expression at chance, at most so many deep."""
    way = chance.randrange(6) if deep > 1 else chance.randrange(2)
    if way == 0:
        return ("number", chance.choice(EDGES))
    if way == 1:
        return ("name", chance.choice(NAMES))
    if way == 2:
        return (chance.choice(WITH_ONE), grown_expression(chance, deep - 1))
    return (chance.choice(WITH_TWO), grown_expression(chance, deep - 1), grown_expression(chance, deep - 1))


def grown_statement(chance, deep):
    """A right statement at chance, with bodies at most so many deep within it."""
    words = ["set", "set", "make", "push", "gone", "say", "if", "if", "while"]
    word = chance.choice(words if deep > 0 else words[:6])
    parts = [grown_expression(chance, chance.randrange(1, 4)) for _ in range(3)]
    if word == "set":
        return ("set", chance.choice(SETS), parts[0])
    if word == "make":
        return ("make", chance.randrange(8), *parts)
    if word == "push":
        return ("push", *parts)
    if word == "gone":
        return ("gone",)
    if word == "if":
        return ("if", parts[0], grown_body(chance, deep - 1), grown_body(chance, deep - 1))
    return (word, parts[0]) if word == "say" else (word, parts[0], grown_body(chance, deep - 1))


def grown_body(chance, deep):
    """A body of right statements at chance, with bodies at most so many deep within it."""
    return tuple([grown_statement(chance, deep) for _ in range(chance.randrange(4))])


def grown_handler(chance):
    """A handler's body at chance."""
    while True:
        body = grown_body(chance, 3)
        if body and raised(Program, {"tick": body}) is None:
            return body


# What handlers and codes run on in the tests.
ARENA_GROUND = Ground(("..........", ".#3.......", "90........"))
ACTOR = (4, 0, 30, 0, 3, -2, 1, (11, -12, 13, -14))
BODIES = (ACTOR, (7, 1, 50, 0, -1, 1, -1, (0, 0, 0, 0)), (9, 2, 61, 14, 16, -16, 0, (1, 1, 1, 1)))


def arena(handlers):
    """A game of two players and three kinds, whose first kind has these handlers, no program for None."""
    program = None if handlers is None else Program(handlers)
    kinds = (Kind(8, 8, True, 0, program), Kind(8, 8, True, 0, None), Kind(2, 3, False, 0, None))
    return Game(2, ARENA_GROUND, kinds, ())


def grown_standing(chance):
    """A standing of the arena at chance, with its three bodies."""
    bodies = []
    for body in BODIES:
        cells = tuple([chance.choice((0, 1, 5, -3, 2 ** 31 - 1)) for _ in range(4)])
        speeds = (chance.randrange(-16, 17), chance.randrange(-16, 17))
        bodies.append((*body[:4], *speeds, chance.randrange(-1, 2), cells))
    shared = tuple([chance.choice((0, 1, 4, 7, 9, -1, -2 ** 31)) for _ in range(8)])
    said = (0,) * chance.choice((0, 1, 62, 63, 64))
    asked = ((0, 0, 0, 0, 0),) * chance.choice((0, 1, 30, 31, 32))
    leaving = chance.choice(((), (4,), (7, 9), (4, 9)))
    seed = chance.randrange(1, 2 ** 31 - 1)
    return Standing(chance.randrange(1, 10 ** 9), seed, shared, tuple(bodies), said, asked, leaving)


class Ended(Exception):
    """No fuel is left."""


class Told:
    """A run as the document tells it, over lists of lists."""

    def __init__(self, game, standing, body_id, other, side, inputs):
        self.game, self.standing, self.fuel = game, standing, 100
        self.bodies = {body[0]: [*body[:7], list(body[7])] for body in standing.bodies}
        self.own = self.bodies[body_id]
        self.buttons = 0 if self.own[6] == -1 else inputs[self.own[6]]
        self.other, self.side, self.seed = other, side, standing.seed
        self.shared, self.said, self.asked = list(standing.shared), list(standing.said), list(standing.asked)
        self.leaving = set(standing.leaving)

    def read(self, word):
        if word[0] == "s" and word[1:].isdigit():
            return self.shared[int(word[1])]
        if word[0] == "c":
            return self.own[7][int(word[1])]
        places = {"id": 0, "x": 2, "y": 3, "dx": 4, "dy": 5, "owner": 6}
        if word in places:
            return self.own[places[word]]
        return {"tick": self.standing.tick, "buttons": self.buttons, "other": self.other, "side": self.side}[word]

    def draw(self, below):
        draw, self.seed = drawn(self.seed, below)
        return draw

    def cell(self, x, y):
        return "0123456789.#".index(sign_at(self.game.ground, x, y))

    def worth(self, expression):
        word, *parts = expression
        if word in ("number", "name"):
            return parts[0] if word == "number" else self.read(parts[0])
        parts = [self.worth(part) for part in parts]
        one, two = parts[0], parts[-1]
        none = [0, -1, 0, 0]
        found = {
            "not": lambda: one == 0, "minus": lambda: -one, "draw": lambda: self.draw(one),
            "press": lambda: one in range(8) and self.buttons & 2 ** one != 0,
            "kind": lambda: self.bodies.get(one, none)[1], "left": lambda: self.bodies.get(one, none)[2],
            "top": lambda: self.bodies.get(one, none)[3], "add": lambda: one + two, "sub": lambda: one - two,
            "mul": lambda: one * two, "div": lambda: two and one // two, "rest": lambda: two and one % two,
            "less": lambda: one < two, "same": lambda: one == two, "and": lambda: one != 0 and two != 0,
            "or": lambda: one != 0 or two != 0, "cell": lambda: self.cell(one, two),
        }[word]()
        return wrapped(int(found))

    def write(self, word, number):
        if word in ("dx", "dy"):
            self.own[4 if word == "dx" else 5] = sorted((-16, number, 16))[1]
        else:
            (self.shared if word[0] == "s" else self.own[7])[int(word[1])] = number

    def take(self):
        if self.fuel == 0:
            raise Ended()
        self.fuel -= 1

    def do(self, statement):
        self.take()
        word, *parts = statement
        if word == "gone":
            self.leaving.add(self.own[0])
        elif word == "say":
            self.said = [*self.said, self.worth(parts[0])][:64]
        elif word == "set":
            self.write(parts[0], self.worth(parts[1]))
        elif word == "make":
            x, y, cell = [self.worth(part) for part in parts[1:]]
            if parts[0] < len(self.game.kinds):
                self.asked = [*self.asked, (parts[0], x, y, self.own[6], cell)][:32]
        elif word == "push":
            body_id, dx, dy = [self.worth(part) for part in parts]
            body = self.bodies.get(body_id, [0] * 8)
            body[4:6] = sorted((-16, body[4] + dx, 16))[1], sorted((-16, body[5] + dy, 16))[1]
        elif word == "if":
            self.body(parts[1 if self.worth(parts[0]) else 2])
        else:
            while self.worth(parts[0]):
                self.body(parts[1])
                self.take()

    def body(self, body):
        for statement in body:
            self.do(statement)

    def behind(self, body):
        try:
            self.body(body)
        except Ended:
            pass
        bodies = tuple([(*body[:7], tuple(body[7])) for body in self.bodies.values()])
        lot = tuple(sorted(self.leaving))
        return Standing(
            self.standing.tick, self.seed, tuple(self.shared), bodies, tuple(self.said), tuple(self.asked), lot,
        )

    def order(self, order, pile):
        """Does an order of a code that leads to the next one."""
        word, *parts = order
        if word == "spend":
            self.take()
        elif word in ("push", "load"):
            pile.append(parts[0] if word == "push" else self.read(parts[0]))
        elif word == "store":
            self.write(parts[0], pile.pop())
        elif word in WITH_ONE or word in WITH_TWO:
            many = 1 if word in WITH_ONE else 2
            pile[-many:] = [self.worth((word, *[num(one) for one in pile[-many:]]))]
        else:
            many = {"make": 3, "shove": 3, "say": 1, "gone": 0}[word]
            taken = [num(one) for one in pile[len(pile) - many:]]
            del pile[len(pile) - many:]
            self.fuel += 1
            self.do(("push" if word == "shove" else word, *parts, *taken))

    def code(self, code):
        """Does the orders of a code, one behind the other."""
        place, pile = 0, []
        while place < len(code):
            word, *parts = code[place]
            place += 1
            if word == "jump" or (word == "unless" and pile.pop() == 0):
                place = parts[0]
            elif word != "unless":
                self.order(code[place - 1], pile)

    def behind_code(self, code):
        """The standing behind the run of a code."""
        try:
            self.code(code)
        except Ended:
            pass
        return self.behind(())
