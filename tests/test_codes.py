"""[4.1], [4.2]: handlers compiled to orders, which codes are safe, heights of the pile."""

import random
import unittest

from guessedworlds.codes import compiled, heights, is_code
from guessedworlds.errors import NoCode, NoHandler
from guessedworlds.programs import Program
from tests.things import (
    EDGES, NAMES, SETS, WITH_ONE, WITH_TWO, all_things, grown_handler, name, num, only_named, raised, with_part,
)

SPEND = ("spend",)
SAY = ("say",)
ONE = ("push", 1)
NOT = ("not",)
ADD = ("add",)
NO_PLACES = (-1, True, False, None, "0", (0,), [0], {}, 10 ** 19)


def jump(place):
    return ("jump", place)


def unless(place):
    return ("unless", place)


def pile_of(many):
    """A code that piles up so many numbers and takes them away again."""
    return (ONE,) * many + (("store", "c0"),) * many


def told_effect(order):
    """How many numbers an order takes and lays."""
    word = order[0]
    if word in WITH_ONE or word in WITH_TWO:
        return (1 if word in WITH_ONE else 2, 1)
    taken = {"store": 1, "make": 3, "shove": 3, "say": 1, "unless": 1}.get(word, 0)
    return (taken, 1 if word in ("push", "load") else 0)


def told_heights(code):
    """The heights of a code of right orders, None if it is not safe, told by all pairs of place and height."""
    seen = {(0, 0)}
    waiting = [(0, 0)]
    ways = set()
    while waiting:
        place, height = waiting.pop()
        if place == len(code):
            if height:
                return None
            continue
        word, *parts = code[place]
        taken, laid = told_effect(code[place])
        if height < taken or height - taken + laid > 60:
            return None
        for behind in {"jump": parts, "unless": [place + 1, *parts]}.get(word, [place + 1]):
            ways.add((place, behind))
            if (behind, height - taken + laid) not in seen:
                seen.add((behind, height - taken + laid))
                waiting.append((behind, height - taken + laid))
    if len({place for place, _ in seen}) < len(seen):
        return None
    free = {(one, other) for one, other in ways if code[one] != SPEND and (code + (SPEND,))[other] != SPEND}
    for middle in range(len(code)):
        to = {one for one, other in free if other == middle}
        free |= {(one, other) for one in to for begun, other in free if begun == middle}
    if [one for one, other in free if one == other]:
        return None
    return tuple([dict(seen).get(place) for place in range(len(code) + 1)])


class Compiled(unittest.TestCase):
    def test_expressions(self):
        for number in (0, 1, -1, 2 ** 31 - 1, -2 ** 31):
            self.assertEqual(compiled((("say", num(number)),)), (SPEND, ("push", number), SAY))
        for word in NAMES:
            self.assertEqual(compiled((("say", name(word)),)), (SPEND, ("load", word), SAY))
        for word in WITH_ONE:
            self.assertEqual(compiled((("say", (word, name("x"))),)), (SPEND, ("load", "x"), (word,), SAY))
        for word in WITH_TWO:
            code = (SPEND, ("load", "x"), ("push", 5), (word,), SAY)
            self.assertEqual(compiled((("say", (word, name("x"), num(5))),)), code)

    def test_nested_expressions(self):
        expression = ("sub", ("not", ("add", num(1), num(2))), ("cell", ("minus", num(3)), num(4)))
        code = (SPEND, ONE, ("push", 2), ADD, NOT, ("push", 3), ("minus",), ("push", 4), ("cell",), ("sub",), SAY)
        self.assertEqual(compiled((("say", expression),)), code)

    def test_each_statement(self):
        for word in SETS:
            self.assertEqual(compiled((("set", word, num(1)),)), (SPEND, ONE, ("store", word)))
        for kind in range(8):
            code = (SPEND, ONE, ("push", 2), ("push", 3), ("make", kind))
            self.assertEqual(compiled((("make", kind, num(1), num(2), num(3)),)), code)
        code = (SPEND, ONE, ("push", 2), ("push", 3), ("shove",))
        self.assertEqual(compiled((("push", num(1), num(2), num(3)),)), code)
        self.assertEqual(compiled((("gone",),)), (SPEND, ("gone",)))
        self.assertEqual(compiled((("gone",), ("gone",))), (SPEND, ("gone",), SPEND, ("gone",)))
        self.assertEqual(compiled(()), ())

    def test_ifs(self):
        gone, say = ("gone",), ("say", name("x"))
        self.assertEqual(compiled((("if", num(1), (gone,), (say,)), gone)), (
            SPEND, ONE, unless(6), SPEND, gone, jump(9), SPEND, ("load", "x"), SAY, SPEND, gone,
        ))
        self.assertEqual(compiled((("if", num(1), (), ()),)), (SPEND, ONE, unless(4), jump(4)))
        self.assertEqual(compiled((("if", num(1), (gone,), ()),)), (SPEND, ONE, unless(6), SPEND, gone, jump(6)))
        self.assertEqual(compiled((("if", num(1), (), (gone,)),)), (SPEND, ONE, unless(4), jump(6), SPEND, gone))

    def test_whiles(self):
        gone = ("gone",)
        self.assertEqual(compiled((("while", num(1), ()),)), (SPEND, ONE, unless(4), jump(0)))
        self.assertEqual(compiled((gone, ("while", num(1), (gone,)), gone)), (
            SPEND, gone, SPEND, ONE, unless(8), SPEND, gone, jump(2), SPEND, gone,
        ))

    def test_nested_bodies(self):
        inner = ("while", name("x"), (("if", num(1), (("gone",),), ()),))
        self.assertEqual(compiled((("if", num(1), (inner,), (inner,)),)), (
            SPEND, ONE, unless(14),
            SPEND, ("load", "x"), unless(13), SPEND, ONE, unless(12), SPEND, ("gone",), jump(12), jump(3),
            jump(24),
            SPEND, ("load", "x"), unless(24), SPEND, ONE, unless(23), SPEND, ("gone",), jump(23), jump(14),
        ))

    def test_what_is_no_handlers_body(self):
        six = ()
        for _ in range(5):
            six = (("while", num(1), six),)
        for thing in [
            None, [], (("gone",),) * 51, ("gone",), (["gone"],), (("say", num(2 ** 31)),), (("say", num(True)),),
            (("set", "x", num(1)),), (("while", num(1), None),), six, (("say", ("not",)),),
        ]:
            self.assertEqual(raised(compiled, thing), (NoHandler, {}))
        fits = lambda thing: raised(Program, {"tick": thing}) is None
        only_named(self, compiled, (NoHandler, {}), fits)
        only_named(self, lambda thing: compiled((thing,)), (NoHandler, {}), lambda thing: fits((thing,)))
        of_say = lambda thing: (("say", thing),)
        only_named(self, lambda thing: compiled(of_say(thing)), (NoHandler, {}), lambda thing: fits(of_say(thing)))

    def test_what_is_compiled_is_safe(self):
        chance = random.Random(21)
        for _ in range(300):
            body = grown_handler(chance)
            code = compiled(body)
            self.assertIs(is_code(code), True)
            self.assertEqual(heights(code), told_heights(code))
            self.assertEqual(compiled(body), code)


class Orders(unittest.TestCase):
    def assert_order(self, order, right):
        """Judges an order where nothing leads, so its form alone counts."""
        self.assertIs(is_code((jump(2), order)), right, order)
        self.assertEqual(raised(heights, (jump(2), order)), None if right else (NoCode, {}))

    def test_pushes(self):
        for number in EDGES:
            self.assert_order(("push", number), True)
        for thing in (2 ** 31, -2 ** 31 - 1, True, False, None, "1", (1,), 10 ** 19):
            self.assert_order(("push", thing), False)

    def test_loads_and_stores(self):
        for word in NAMES:
            self.assert_order(("load", word), True)
            self.assert_order(("store", word), word in SETS)
        for word in ["", "c4", "s8", "z", "add", None, 1, True, ("x",), ["c0"], b"c0"]:
            self.assert_order(("load", word), False)
            self.assert_order(("store", word), False)

    def test_bare_words(self):
        for word in [*WITH_ONE, *WITH_TWO, "shove", "say", "gone", "spend"]:
            self.assert_order((word,), True)
            self.assert_order([word], False)
            self.assert_order((word, 0), word == "push")
        for word in "push load store make unless jump set if while number name x".split() + [""]:
            self.assert_order((word,), False)
        for word in (None, 1, True, ("say",), b"say"):
            self.assert_order((word,), False)

    def test_makes(self):
        for kind in range(-2, 11):
            self.assert_order(("make", kind), 0 <= kind <= 7)
        for thing in (True, False, None, "1", (1,)):
            self.assert_order(("make", thing), False)

    def test_places(self):
        for word in ("jump", "unless"):
            for place in (0, 1, 2):
                self.assert_order((word, place), True)
            for place in (3, 4, *NO_PLACES):
                self.assert_order((word, place), False)
        self.assertIs(is_code((jump(1),)), True)
        self.assertIs(is_code((jump(2),)), False)

    def test_wrong_forms(self):
        for thing in [(), None, "say", 1, ("push",), ("push", 1, 1), ("jump", 0, 0), (("say",),), {}, ("say", "say")]:
            self.assert_order(thing, False)

    def test_things_in_the_place_of_an_order(self):
        for thing in all_things():
            with self.subTest(thing=repr(thing)[:60]):
                self.assert_order(thing, isinstance(thing, tuple) and thing == ("gone",))
                self.assertIs(is_code((thing,)), isinstance(thing, tuple) and thing == ("gone",))

    def test_things_within_an_order(self):
        for thing in all_things():
            small = isinstance(thing, int) and not isinstance(thing, bool) and -2 ** 31 <= thing < 2 ** 31
            for word, right in [
                ("push", small), ("load", thing == "x" or thing == "tick"), ("store", False),
                ("make", small and 0 <= thing <= 7), ("jump", small and 0 <= thing <= 2),
                ("unless", small and 0 <= thing <= 2), (thing, False),
            ]:
                with self.subTest(word=repr(word)[:60], thing=repr(thing)[:60]):
                    self.assert_order((word, thing), bool(right))


class Safe(unittest.TestCase):
    def assert_heights(self, code, expected):
        """Checks a code's heights, None for a code that is not safe."""
        self.assertIs(is_code(code), expected is not None, code)
        if expected is None:
            self.assertEqual(raised(heights, code), (NoCode, {}))
        else:
            self.assertEqual(heights(code), expected)

    def test_what_each_order_takes_and_lays(self):
        for order in [
            *[(word,) for word in [*WITH_ONE, *WITH_TWO, "shove", "say", "gone", "spend"]],
            ("push", 1), ("load", "x"), ("store", "c0"), ("make", 3), unless(6), jump(6),
        ]:
            taken, laid = told_effect(order)
            for many in range(5):
                left = many - taken + laid
                place = many + 1
                rest = (SAY,) * max(left, 0)
                there = order if order[0] not in ("unless", "jump") else (order[0], place)
                expected = None
                if many >= taken:
                    expected = (*range(many + 1), *range(left, -1, -1))
                self.assert_heights((ONE,) * many + (there,) + rest, expected)

    def test_no_orders(self):
        self.assert_heights((), (0,))
        self.assert_heights([], None)

    def test_the_example(self):
        code = (SPEND, ("load", "c0"), ("push", 3), ("less",), unless(11), SPEND, ("load", "c0"), ONE, ADD,
                ("store", "c0"), jump(0))
        self.assert_heights(code, (0, 0, 1, 2, 1, 0, 0, 1, 2, 1, 0, 0))

    def test_heights_that_differ_by_way(self):
        self.assert_heights((ONE, unless(3), ONE, SAY), None)
        self.assert_heights((ONE, unless(3), ONE), None)
        self.assert_heights((ONE, unless(4), ONE, jump(5), ONE, SAY), (0, 1, 0, 1, 0, 1, 0))
        self.assert_heights((ONE, ONE, unless(4), SAY, SAY), None)
        self.assert_heights((SPEND, ONE, jump(0)), None)
        self.assert_heights((ONE, SPEND, SAY, jump(1)), None)
        self.assert_heights((ONE, SPEND, SAY, ONE, jump(1)), (0, 1, 1, 0, 1, None))

    def test_both_ways_of_an_unless(self):
        self.assert_heights((ONE, unless(4), SPEND, jump(5), SAY), None)
        self.assert_heights((ONE, unless(3), SAY), None)
        self.assert_heights((ONE, unless(2)), (0, 1, 0))
        self.assert_heights((ONE, unless(2), SPEND), (0, 1, 0, 0))

    def test_piles_of_sixty(self):
        self.assert_heights(pile_of(59), (*range(60), *range(58, -1, -1)))
        self.assert_heights(pile_of(60), (*range(61), *range(59, -1, -1)))
        self.assert_heights(pile_of(61), None)
        full = (ONE,) * 60
        self.assert_heights(full + (NOT, ADD) + (SAY,) * 59, (*range(61), 60, *range(59, -1, -1)))
        self.assert_heights(full + (("load", "x"),) + (SAY,) * 61, None)
        self.assert_heights((SPEND,) + full + (jump(0),), None)

    def test_the_ends_height(self):
        self.assert_heights((ONE,), None)
        self.assert_heights((ONE, SAY), (0, 1, 0))
        self.assert_heights((ONE, jump(2)), None)
        self.assert_heights((ONE, jump(3), SAY), None)
        self.assert_heights((ONE, SPEND, jump(1)), (0, 1, 1, None))

    def test_rings(self):
        self.assert_heights((jump(0),), None)
        self.assert_heights((SPEND, jump(0)), (0, 0, None))
        self.assert_heights((SPEND, jump(1)), None)
        self.assert_heights((jump(1), SPEND, jump(0)), (0, 0, 0, None))
        self.assert_heights((ONE, unless(0)), None)
        self.assert_heights((SPEND, ONE, unless(1)), None)
        self.assert_heights((SPEND, ONE, unless(0)), (0, 0, 1, 0))
        self.assert_heights((ONE, unless(3), SPEND, jump(0)), None)
        self.assert_heights((ONE, unless(4), SPEND, jump(0)), (0, 1, 0, 0, 0))
        self.assert_heights((SPEND, ONE, unless(0), ONE, unless(1)), None)
        self.assert_heights((SPEND, ONE, unless(0), ONE, unless(0), jump(0)), (0, 0, 1, 0, 1, 0, None))

    def test_a_ring_behind_a_spend_is_one_nevertheless(self):
        self.assert_heights((SPEND, ONE, unless(4), jump(1)), None)
        self.assert_heights((SPEND, ONE, unless(4), jump(0)), (0, 0, 1, 0, 0))
        self.assert_heights((SPEND, jump(3), SPEND, jump(4), jump(3)), None)

    def test_where_nothing_leads(self):
        self.assert_heights((jump(2), SAY), (0, None, 0))
        self.assert_heights((jump(2), jump(1)), (0, None, 0))
        self.assert_heights((jump(4), ONE, ADD, jump(1)), (0, None, None, None, 0))
        self.assert_heights((SPEND, jump(0), ONE), (0, 0, None, None))
        self.assert_heights((jump(3), ONE, ONE, SPEND), (0, None, None, 0, 0))

    def test_how_many_orders(self):
        for many in (2998, 3000):
            self.assert_heights((SPEND,) * many, (0,) * (many + 1))
            self.assert_heights((ONE, SAY) * (many // 2), (0, 1) * (many // 2) + (0,))
        self.assert_heights((SPEND,) * 3001, None)
        self.assert_heights((SPEND,) * 2999 + (jump(0),), (0,) * 3000 + (None,))
        self.assert_heights((jump(3000),) + (SPEND,) * 2999, (0,) + (None,) * 2999 + (0,))
        self.assert_heights((jump(3001),) + (SPEND,) * 3000, None)
        self.assert_heights((SPEND,) * 2999 + (jump(2999),), None)

    def test_long_chains_of_jumps(self):
        chain = tuple([jump(place + 1) for place in range(3000)])
        self.assert_heights(chain, (0,) * 3001)
        self.assert_heights(chain[:-1] + (jump(0),), None)
        back = (jump(2999),) + tuple([jump(place) for place in range(2, 3000)]) + (SPEND,)
        self.assert_heights(back, (0, *[None] * 2998, 0, 0))

    def test_as_all_ways_tell(self):
        chance = random.Random(22)
        seen = {True: 0, False: 0}
        for _ in range(4000):
            code = grown_code(chance)
            expected = told_heights(code)
            seen[expected is not None] += 1
            self.assert_heights(code, expected)
        self.assertGreater(min(seen.values()), 500)

    def test_lists_are_no_codes(self):
        self.assert_heights([SPEND], None)
        self.assert_heights((["spend"],), None)

    def test_things_in_the_place_of_a_code(self):
        fits = lambda thing: isinstance(thing, tuple) and thing in ((), (("gone",),))
        only_named(self, heights, (NoCode, {}), fits)
        for thing in all_things():
            with self.subTest(thing=repr(thing)[:60]):
                self.assertIs(is_code(thing), fits(thing))


def grown_code(chance):
    """A code of right orders at chance, often a compiled one with some orders changed."""
    code = compiled(grown_handler(chance))[:60]
    code = tuple([(one[0], min(one[1], len(code))) if one[0] in ("jump", "unless") else one for one in code])
    for _ in range(chance.randrange(3)):
        place = chance.randrange(len(code) + 1)
        order = chance.choice([ONE, SPEND, NOT, ADD, SAY, jump(place), unless(place), ("load", "x"), ("gone",)])
        code = with_part(code, chance.randrange(len(code)), order)
    return code


if __name__ == "__main__":
    unittest.main()
