"""[3.1]: expressions, statements, bodies, programs."""

import random
import unittest

from guessedworlds.errors import BadProgram
from guessedworlds.programs import Program
from tests.things import all_things, is_from, only_named, raised, right_game, right_ground

ONE = ("number", 1)
X = ("name", "x")
CELLS = ["c0", "c1", "c2", "c3"]
SHARED = ["s0", "s1", "s2", "s3", "s4", "s5", "s6", "s7"]
SETS = ["dx", "dy", *CELLS, *SHARED]
NAMES = ["x", "y", "dx", "dy", "tick", "id", "owner", "buttons", "other", "side", *CELLS, *SHARED]
WITH_ONE = ["not", "minus", "draw", "press", "kind", "left", "top"]
WITH_TWO = ["add", "sub", "mul", "div", "rest", "less", "same", "and", "or", "cell"]
WRONG_WORDS = ["", "X", "x ", "c4", "c", "s8", "s", "d", "set", "number", "plus", "nor", "wall", "touch", "xy"]


def bad(part):
    return (BadProgram, {"part": part})


def with_body(body):
    """What a program with this handler raises."""
    return raised(Program, {"tick": body})


def with_expression(expression):
    """What a program raises that says this expression."""
    return with_body((("say", expression),))


def deep_expression(deep):
    """An expression so many deep."""
    return ONE if deep == 1 else ("not", deep_expression(deep - 1))


def wide_expression(tuples):
    """An expression of so many tuples, as flat as can be."""
    if tuples < 3:
        return ONE if tuples == 1 else ("minus", ONE)
    first = (tuples - 1) // 2
    return ("add", wide_expression(first), wide_expression(tuples - 1 - first))


def deep_body(deep, word):
    """A body with bodies within it, so many deep."""
    if deep == 1:
        return (("gone",),)
    inner = deep_body(deep - 1, word)
    return (("while", ONE, inner),) if word == "while" else (("if", ONE, (), inner),)


def told(expression, deep):
    """How many tuples an expression has, 1000 more for each fault: told in another way than the program's."""
    if not isinstance(expression, tuple) or deep > 10:
        return 1000
    if len(expression) == 2 and expression[0] == "number":
        number = expression[1]
        return 1 if is_from(-2 ** 31, 2 ** 31 - 1)(number) else 1000
    if len(expression) == 2 and expression[0] == "name":
        return 1 if isinstance(expression[1], str) and expression[1] in NAMES else 1000
    parts = {2: WITH_ONE, 3: WITH_TWO}.get(len(expression), [])
    if not isinstance(expression[0] if expression else None, str) or expression[0] not in parts:
        return 1000
    return 1 + sum([told(part, deep + 1) for part in expression[1:]])


def is_right_expression(thing):
    return told(thing, 1) <= 40


def grown(chance, deep):
    """An expression, by chance with a fault or so."""
    luck = chance.random()
    if luck < 0.003:
        return chance.choice([None, True, [], (), ("number", True), ["number", 1], ("name", "c9"), ("not",)])
    if deep < 2 or luck < 0.25:
        return chance.choice([("number", chance.randrange(-9, 9)), ("name", chance.choice(NAMES))])
    if luck < 0.6:
        return (chance.choice(WITH_ONE), grown(chance, deep - 1))
    return (chance.choice(WITH_TWO), grown(chance, deep - 1), grown(chance, deep - 1))


class Expressions(unittest.TestCase):
    def test_numbers(self):
        for number in (0, 1, -1, 2 ** 31 - 1, -2 ** 31):
            self.assertIsNone(with_expression(("number", number)))
        for number in (2 ** 31, -2 ** 31 - 1, 10 ** 20 - 1, True, False, None, "1", (1,), [1]):
            self.assertEqual(with_expression(("number", number)), bad("tick"))

    def test_names(self):
        for word in NAMES:
            self.assertIsNone(with_expression(("name", word)))
        for word in [*WRONG_WORDS, "add", "not", None, 1, True, ("x",), ["x"], {"x": 1}, b"x"]:
            self.assertEqual(with_expression(("name", word)), bad("tick"))

    def test_words_with_parts(self):
        for word in WITH_ONE:
            self.assertIsNone(with_expression((word, X)))
            self.assertEqual(with_expression((word,)), bad("tick"))
            self.assertEqual(with_expression((word, X, X)), bad("tick"))
        for word in WITH_TWO:
            self.assertIsNone(with_expression((word, X, ONE)))
            self.assertEqual(with_expression((word, X)), bad("tick"))
            self.assertEqual(with_expression((word, X, X, X)), bad("tick"))

    def test_wrong_words(self):
        for word in [*WRONG_WORDS, "say", "if", None, 1, True, ("not",), ["not"], b"not"]:
            if word != "number":
                self.assertEqual(with_expression((word, X)), bad("tick"))
            self.assertEqual(with_expression((word, X, X)), bad("tick"))

    def test_wrong_forms(self):
        for thing in [(), ("number",), ("number", 1, 1), ("name",), ("name", "x", "x"), "x", 1, None, True]:
            self.assertEqual(with_expression(thing), bad("tick"))

    def test_how_deep(self):
        self.assertIsNone(with_expression(deep_expression(10)))
        self.assertEqual(with_expression(deep_expression(11)), bad("tick"))
        self.assertIsNone(with_expression(("add", ONE, deep_expression(9))))
        self.assertEqual(with_expression(("add", ONE, deep_expression(10))), bad("tick"))
        self.assertEqual(with_expression(("add", deep_expression(10), ONE)), bad("tick"))
        self.assertEqual(with_expression(deep_expression(40)), bad("tick"))

    def test_no_depth_is_too_great_to_be_told(self):
        thing = ONE
        body = ()
        for _ in range(5000):
            thing = ("not", thing)
            body = (("while", ONE, body),)
        self.assertEqual(with_expression(thing), bad("tick"))
        self.assertEqual(with_body(body), bad("tick"))

    def test_how_many_tuples(self):
        for many in (1, 2, 3, 39, 40):
            self.assertIsNone(with_expression(wide_expression(many)))
        for many in (41, 42, 60, 100):
            self.assertEqual(with_expression(wide_expression(many)), bad("tick"))
        for many in (39, 40):
            expected = None if many == 39 else bad("tick")
            self.assertEqual(with_expression(("not", wide_expression(many))), expected)

    def test_faults_however_deep(self):
        for fault in [["number", 1], ("number", True), ("number", 2 ** 31), ("name", "c4"), ["not", ONE], None]:
            thing = fault
            for deep in range(9):
                self.assertEqual(with_expression(thing), bad("tick"))
                thing = ("sub", thing, ONE) if deep % 2 else ("not", thing)

    def test_as_another_judge_tells(self):
        chance = random.Random(5)
        seen = {True: 0, False: 0}
        for _ in range(3000):
            expression = grown(chance, chance.randrange(1, 13))
            right = is_right_expression(expression)
            seen[right] += 1
            self.assertEqual(with_expression(expression), None if right else bad("tick"))
        self.assertGreater(min(seen.values()), 300)

    def test_things_in_the_place_of_expressions(self):
        fault = bad("tick")
        only_named(self, lambda thing: Program({"tick": (("say", thing),)}), fault, is_right_expression)
        only_named(self, lambda thing: Program({"tick": (("say", ("not", thing)),)}), fault, is_right_expression)
        is_small = is_from(-2 ** 31, 2 ** 31 - 1)
        only_named(self, lambda thing: Program({"tick": (("say", ("number", thing)),)}), fault, is_small)


class Statements(unittest.TestCase):
    def test_right_ones(self):
        for word in SETS:
            self.assertIsNone(with_body((("set", word, ONE),)))
        for kind in range(8):
            self.assertIsNone(with_body((("make", kind, ONE, X, ONE),)))
        for statement in [
            ("push", ONE, X, ONE), ("gone",), ("say", X), ("if", X, (), ()), ("while", X, ()),
            ("if", X, (("gone",),), (("say", X), ("gone",))), ("while", X, (("gone",),)),
        ]:
            self.assertIsNone(with_body((statement,)))

    def test_words_of_sets(self):
        read_alone = [word for word in NAMES if word not in SETS]
        for word in [*read_alone, *WRONG_WORDS, None, 1, ["dx"], ("dx",)]:
            self.assertEqual(with_body((("set", word, ONE),)), bad("tick"))

    def test_kinds_of_makes(self):
        for kind in [8, -1, True, False, None, "1", ONE, [1], 10 ** 19]:
            self.assertEqual(with_body((("make", kind, ONE, ONE, ONE),)), bad("tick"))

    def test_wrong_forms(self):
        for statement in [
            (), "gone", None, 1, True, ["gone"], ("gone", ONE), ("go",), ("",), (None,), (("gone",),),
            ("set", "dx"), ("set", "dx", ONE, ONE), ["set", "dx", ONE], ("set", ONE), ("set", ONE, "dx"),
            ("make", 1, ONE, ONE), ("make", 1, ONE, ONE, ONE, ONE), ("make", ONE, ONE, ONE, ONE),
            ["make", 1, ONE, ONE, ONE], ("push", ONE, ONE), ("push", ONE, ONE, ONE, ONE), ["push", ONE, ONE, ONE],
            ("say",), ("say", ONE, ONE), ["say", ONE], ("say", 1), ("if", ONE, ()), ("if", ONE, (), (), ()),
            ("if", ONE, [], ()), ("if", ONE, (), []), ("if", (), ()), ("if", ONE, None, ()), ("if", ONE, (), None),
            ("while", ONE), ("while", ONE, (), ()), ("while", ONE, []), ("while", (), ONE), ("while", ONE, ("gone",)),
            ("not", ONE), ("number", 1), ("put", "dx", ONE), ("while", "dx", ONE), ("build", 1, ONE, ONE, ONE),
            ("shove", ONE, ONE, ONE), ("when", ONE, (), ()), ("until", ONE, ()), ("tell", ONE),
        ]:
            self.assertEqual(with_body((statement,)), bad("tick"))
            self.assertEqual(with_body((("gone",), statement)), bad("tick"))
            self.assertEqual(with_body((("while", ONE, (statement,)),)), bad("tick"))

    def test_each_expression_is_judged(self):
        for fault in [None, ["number", 1], ("number", True), deep_expression(11), wide_expression(41)]:
            for statement in [
                ("set", "c0", fault), ("say", fault), ("if", fault, (), ()), ("while", fault, ()),
                ("make", 0, fault, ONE, ONE), ("make", 0, ONE, fault, ONE), ("make", 0, ONE, ONE, fault),
                ("push", fault, ONE, ONE), ("push", ONE, fault, ONE), ("push", ONE, ONE, fault),
            ]:
                self.assertEqual(with_body((statement,)), bad("tick"))

    def test_each_body_is_judged(self):
        for fault in [None, 1, [], "gone", ("gone",), (None,), (["gone"],), [("gone",)], (("say", True),)]:
            for statement in [("if", ONE, fault, ()), ("if", ONE, (), fault), ("while", ONE, fault)]:
                self.assertEqual(with_body((statement,)), bad("tick"))
                self.assertEqual(with_body((("if", ONE, (), (statement,)),)), bad("tick"))


class Bodies(unittest.TestCase):
    def test_how_deep(self):
        for word in ("while", "if"):
            self.assertIsNone(with_body(deep_body(5, word)))
            self.assertEqual(with_body(deep_body(6, word)), bad("tick"))
            self.assertEqual(with_body(deep_body(30, word)), bad("tick"))
        self.assertEqual(with_body((("if", ONE, deep_body(5, "if"), ()),)), bad("tick"))

    def test_an_empty_body_is_one_deep_too(self):
        body = ()
        for deep in range(1, 8):
            self.assertEqual(with_body(body), None if deep <= 5 else bad("tick"))
            body = (("while", ONE, body),)

    def test_how_many_statements(self):
        self.assertIsNone(with_body(()))
        self.assertIsNone(with_body((("gone",),) * 50))
        self.assertEqual(with_body((("gone",),) * 51), bad("tick"))

    def test_statements_count_in_all_bodies(self):
        for many in (24, 25):
            body = (("gone",),) * many
            rest = (("gone",),) * (49 - 24 - 24)
            expected = None if many == 24 else bad("tick")
            self.assertEqual(with_body((("if", ONE, body, (("gone",),) * 24),) + rest), expected)
            self.assertEqual(with_body((("if", ONE, (("gone",),) * 24, body),) + rest), expected)
            self.assertEqual(with_body((("while", ONE, body + (("gone",),) * 25),)), expected)

    def test_how_many_tuples(self):
        ten = (("say", wide_expression(40)),) * 10
        self.assertIsNone(with_body(ten))
        self.assertEqual(with_body(ten + (("say", ONE),)), bad("tick"))
        self.assertEqual(with_body((("say", ONE),) + ten), bad("tick"))
        self.assertIsNone(with_body(ten + (("gone",),) * 40))

    def test_tuples_count_in_all_bodies(self):
        for many in (39, 40):
            expected = None if many == 39 else bad("tick")
            last = ("say", wide_expression(many))
            nine = (("say", wide_expression(40)),) * 9
            self.assertEqual(with_body((("while", ONE, nine + (last,)),)), expected)
            self.assertEqual(with_body((("if", ONE, nine, (last,)),)), expected)
            self.assertEqual(with_body((("if", wide_expression(many), (("while", ONE, nine),), ()),)), expected)

    def test_each_handler_has_its_own_count(self):
        full = (("say", wide_expression(40)),) * 10 + (("gone",),) * 40
        self.assertIsNone(raised(Program, {"tick": full, "touch": full, "wall": full}))

    def test_things_in_the_place_of_a_body(self):
        for word in ("tick", "touch", "wall"):
            fits = lambda thing: thing == () or thing == (("gone",),)
            only_named(self, lambda thing: Program({word: thing}), bad(word), fits)
            only_named(self, lambda thing: Program({word: (("while", ONE, thing),)}), bad(word), fits)
            only_named(self, lambda thing: Program({word: (thing,)}), bad(word), lambda thing: thing == ("gone",))


class Programs(unittest.TestCase):
    def test_what_is_no_dict_of_such_words(self):
        for thing in all_things():
            expected = bad("handlers")
            if isinstance(thing, dict) and all([key == "tick" for key in thing]):
                expected = bad("tick") if thing else None
            with self.subTest(thing=repr(thing)[:60]):
                self.assertEqual(raised(Program, thing), expected)

    def test_other_keys(self):
        for key in ["ticks", "", "TICK", "tock", 0, None, ("tick",), b"tick"]:
            self.assertEqual(raised(Program, {key: ()}), bad("handlers"))
            self.assertEqual(raised(Program, {"tick": (), key: ()}), bad("handlers"))
            self.assertEqual(raised(Program, {"tick": None, key: ()}), bad("handlers"))

    def test_some_of_the_words(self):
        for words in [[], ["tick"], ["touch"], ["wall"], ["tick", "wall"], ["wall", "touch", "tick"]]:
            handlers = {word: (("gone",),) for word in words}
            self.assertEqual(Program(handlers).handlers, handlers)

    def test_the_first_wrong_handler_of_several(self):
        self.assertEqual(raised(Program, {"wall": 1, "touch": 1, "tick": 1}), bad("tick"))
        self.assertEqual(raised(Program, {"wall": 1, "touch": 1, "tick": ()}), bad("touch"))
        self.assertEqual(raised(Program, {"wall": 1, "touch": (), "tick": ()}), bad("wall"))
        self.assertEqual(raised(Program, {"wall": [], "tick": ()}), bad("wall"))

    def test_a_dict_that_is_changed_behind_the_call(self):
        handlers = {"tick": (("gone",),)}
        program = Program(handlers)
        handlers["wall"] = 5
        handlers["tick"] = ()
        self.assertEqual(program.handlers, {"tick": (("gone",),)})
        handlers.clear()
        self.assertEqual(program, Program({"tick": (("gone",),)}))

    def test_nothing_passed_is_changed(self):
        handlers = {"wall": (("gone",),), "tick": ()}
        Program(handlers)
        self.assertEqual(list(handlers.items()), [("wall", (("gone",),)), ("tick", ())])
        wrong = {"wall": [["gone"]], "tick": ()}
        raised(Program, wrong)
        self.assertEqual(wrong, {"wall": [["gone"]], "tick": ()})

    def test_equality(self):
        gone = (("gone",),)
        self.assertEqual(Program({"tick": gone, "wall": ()}), Program({"wall": (), "tick": (("gone",),)}))
        self.assertFalse(Program({}) != Program({}))
        self.assertNotEqual(Program({"tick": gone}), Program({"tick": ()}))
        self.assertNotEqual(Program({"tick": ()}), Program({"touch": ()}))
        self.assertNotEqual(Program({"tick": ()}), Program({}))
        for thing in [{}, {"tick": gone}, (), None, 0, False, "", right_ground(), right_game()]:
            self.assertFalse(Program({}) == thing)
            self.assertFalse(Program({"tick": gone}) == thing)
            self.assertFalse(thing == Program({}))


if __name__ == "__main__":
    unittest.main()
