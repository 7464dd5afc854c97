"""[14.1]: the texts of expressions."""

import random
import re
import unittest

from guessedworlds.errors import BadText, NoExpression
from guessedworlds.sources import expression_text, read_expression
from tests.things import WITH_ONE, WITH_TWO, all_things, grown_expression, name, num, raised

X, Y, C0 = name("x"), name("y"), name("c0")
SIGNS = {"or": "or", "and": "and", "less": "<", "same": "=", "add": "+", "sub": "-", "mul": "*", "div": "/",
         "rest": "rest"}
LEVELS = (("or",), ("and",), ("less", "same"), ("add", "sub"), ("mul", "div", "rest"), ("not", "minus"))
BRACKETS = ("draw", "press", "kind", "left", "top", "cell")


def level(expression):
    found = [at for at, words in enumerate(LEVELS) if expression[0] in words]
    return found[0] if found else len(LEVELS)


def told_text(expression):
    """The text as the document tells it."""
    word, *parts = expression
    if word in ("number", "name"):
        return str(parts[0])
    texts = [told_text(part) for part in parts]
    if word in BRACKETS:
        return f"{word}({', '.join(texts)})"
    for at, part in enumerate(parts):
        wrapped = level(part) < level(expression) or (at == 1 and level(part) == level(expression))
        wrapped = wrapped or (level(expression) == 2 and level(part) == 2)
        if word == "minus":
            wrapped = part[0] != "name" and part[0] not in BRACKETS
        if wrapped:
            texts[at] = f"({texts[at]})"
    if word in ("not", "minus"):
        return ("not " if word == "not" else "-") + texts[0]
    return f"{texts[0]} {SIGNS[word]} {texts[1]}"


class Refused(Exception):
    pass


class Told:
    """Reads an expression, rule by rule, each level calling the next one."""

    def __init__(self, text):
        if re.search(r"[^a-z0-9 ()<=+*/,-]", text) or re.search(r"\b\d+[a-z]", text):
            raise Refused()
        self.tokens = re.findall(r"[a-z0-9]+|[()<=+*/,-]", text)
        # Whether figures stand right behind.
        self.tight = [match.end() < len(text) and text[match.end()].isdigit() for match in
                      re.finditer(r"[a-z0-9]+|[()<=+*/,-]", text)]
        self.at = 0

    def next(self):
        return self.tokens[self.at] if self.at < len(self.tokens) else ""

    def take(self, token):
        if self.next() != token:
            raise Refused()
        self.at += 1

    def whole(self):
        found = self.side(0)
        if self.at < len(self.tokens):
            raise Refused()
        return found

    def side(self, deep):
        if deep == 5:
            return self.unary()
        found, many = self.side(deep + 1), 0
        while self.next() in [SIGNS[word] for word in LEVELS[deep]]:
            word = [word for word in LEVELS[deep] if SIGNS[word] == self.next()][0]
            self.at, many = self.at + 1, many + 1
            if deep == 2 and many == 2:
                raise Refused()
            found = (word, found, self.side(deep + 1))
        return found

    def unary(self):
        if self.next() == "not":
            self.take("not")
            return ("not", self.unary())
        if self.next() == "-" and not self.tight[self.at]:
            self.take("-")
            if self.next() == "-" or self.next() == "not" or self.next().isdigit():
                raise Refused()
            return ("minus", self.closest())
        return self.closest()

    def closest(self):
        token = self.next()
        self.at += 1
        if token == "(":
            found = self.side(0)
            self.take(")")
            return found
        if token in BRACKETS:
            self.take("(")
            parts = [self.side(0)]
            if token == "cell":
                self.take(",")
                parts.append(self.side(0))
            self.take(")")
            return (token, *parts)
        if token == "-":
            if self.next() == "0":
                raise Refused()
            return num(-self.figures())
        if token.isdigit():
            self.at -= 1
            return num(self.figures())
        if raised(expression_text, name(token)) is not None:
            raise Refused()
        return name(token)

    def figures(self):
        figures = self.next()
        self.at += 1
        if not figures.isdigit() or (figures[0] == "0" and figures != "0"):
            raise Refused()
        return int(figures)


def told(text):
    """The expression of a text, None for what is none."""
    try:
        found = Told(text).whole()
    except Refused:
        return None
    return found if raised(expression_text, found) is None else None


def read(text):
    return None if raised(read_expression, text) == (BadText, {"line": 1}) else read_expression(text)


class Texts(unittest.TestCase):
    def test_by_hand(self):
        for expression, text in (
            (num(0), "0"), (num(-1), "-1"), (num(2 ** 31 - 1), "2147483647"), (num(-2 ** 31), "-2147483648"), (X, "x"),
            (("draw", X), "draw(x)"), (("press", num(7)), "press(7)"), (("kind", X), "kind(x)"),
            (("left", X), "left(x)"),
            (("top", ("add", X, Y)), "top(x + y)"), (("cell", ("or", X, Y), num(-3)), "cell(x or y, -3)"),
            (("not", X), "not x"), (("not", ("not", X)), "not not x"), (("not", ("minus", X)), "not -x"),
            (("not", num(-2)), "not -2"), (("not", ("less", X, Y)), "not (x < y)"),
            (("not", ("draw", X)), "not draw(x)"),
            (("minus", X), "-x"), (("minus", num(3)), "-(3)"), (("minus", num(-3)), "-(-3)"),
            (("minus", num(0)), "-(0)"),
            (("minus", ("minus", X)), "-(-x)"), (("minus", ("not", X)), "-(not x)"),
            (("minus", ("cell", X, Y)), "-cell(x, y)"),
            (("minus", ("add", X, Y)), "-(x + y)"), (("minus", ("draw", X)), "-draw(x)"),
            (("sub", X, num(-1)), "x - -1"), (("sub", num(-1), ("minus", X)), "-1 - -x"),
            (("sub", ("sub", X, Y), C0), "x - y - c0"), (("sub", X, ("sub", Y, C0)), "x - (y - c0)"),
            (("add", X, ("mul", Y, C0)), "x + y * c0"), (("mul", ("add", X, Y), C0), "(x + y) * c0"),
            (("rest", ("mul", X, Y), C0), "x * y rest c0"), (("div", X, ("rest", Y, C0)), "x / (y rest c0)"),
            (("less", ("less", X, Y), C0), "(x < y) < c0"), (("same", X, ("less", Y, C0)), "x = (y < c0)"),
            (("less", ("add", X, Y), C0), "x + y < c0"), (("and", ("less", X, Y), ("same", X, Y)), "x < y and x = y"),
            (("or", ("and", X, Y), ("or", X, Y)), "x and y or (x or y)"), (("and", ("or", X, Y), X), "(x or y) and x"),
            (("mul", ("not", X), ("not", Y)), "not x * not y"), (("mul", ("minus", X), Y), "-x * y"),
        ):
            self.assertEqual(expression_text(expression), text)
            self.assertEqual(read_expression(text), expression)

    def test_each_sign_within_each_other_one_on_both_sides(self):
        for outer in WITH_ONE + WITH_TWO:
            for inner in ["number", "below", "name"] + WITH_ONE + WITH_TWO:
                part = {"number": num(5), "below": num(-5), "name": Y}.get(inner) or (
                    (inner, X) if inner in WITH_ONE else (inner, X, Y))
                both = [(outer, part)] if outer in WITH_ONE else [(outer, part, C0), (outer, C0, part),
                                                                  (outer, part, part)]
                for expression in both:
                    text = expression_text(expression)
                    self.assertEqual(text, told_text(expression))
                    self.assertEqual(read_expression(text), expression)

    def test_grown_ones_are_read_back(self):
        chance = random.Random(201)
        for _ in range(1500):
            expression = grown_expression(chance, chance.randrange(1, 8))
            if raised(expression_text, expression) is None:
                text = expression_text(expression)
                self.assertEqual((text, read_expression(text)), (told_text(expression), expression))
                self.assertEqual(told(text), expression)

    def test_no_expression(self):
        for thing in all_things():
            outcome = raised(expression_text, thing)
            self.assertIn(outcome, ((NoExpression, {}), None))
            if outcome is None:
                self.assertEqual(read_expression(expression_text(thing)), thing)
        deep = X
        for _ in range(9):
            deep = ("not", deep)
        self.assertEqual(expression_text(deep), "not " * 9 + "x")
        for thing in (("not", deep), num(2 ** 31), num(True), name("z"), ["not", X], ("not", X, X), ("set", "c0", X),
                      None):
            self.assertEqual(raised(expression_text, thing), (NoExpression, {}))


class Read(unittest.TestCase):
    def test_blanks(self):
        for text, expression in (
            ("x+y", ("add", X, Y)), ("  x  +  y ", ("add", X, Y)), ("x-1", ("sub", X, num(1))),
            ("x -1", ("sub", X, num(1))),
            ("x- 1", ("sub", X, num(1))), ("x--1", ("sub", X, num(-1))), ("- x", ("minus", X)),
            ("- ( x )", ("minus", X)),
            ("not(x)", ("not", X)), ("not-x", ("not", ("minus", X))), ("(x)or(y)", ("or", X, Y)),
            ("x<y", ("less", X, Y)),
            ("draw ( x )", ("draw", X)), ("cell(x,y)", ("cell", X, Y)), ("- draw(x)", ("minus", ("draw", X))),
            ("1rest", None), ("xor y", None), ("x or3", None), ("notx", None), ("x y", None), ("1 2", None),
            ("- 1", None),
        ):
            self.assertEqual(read(text), expression)

    def test_needless_brackets(self):
        for text, expression in (
            ("(x)", X), ("((x))+(((y)))", ("add", X, Y)), ("(-1)", num(-1)), ("((-(x)))", ("minus", X)),
            ("-(x)", ("minus", X)),
            ("-((x))", ("minus", X)), ("draw((x))", ("draw", X)), ("cell((x),((y)))", ("cell", X, Y)),
            ("((x < y)) = x", None),
        ):
            expected = ("same", ("less", X, Y), X) if expression is None else expression
            self.assertEqual(read_expression(text), expected)
        self.assertEqual(read_expression("(" * 9999 + "x" + ")" * 9999), X)
        for text in ("(" * 20000, ")" * 20000, "(" * 9999 + "x" + ")" * 9998, "()", "(x", "x)", "not " * 4999,
                     "-(" * 10000,
                     "draw(" * 4000, "x+" * 9999, "x<" * 9999, "cell(" * 4000, "(x," * 5000):
            self.assertEqual(raised(read_expression, text), (BadText, {"line": 1}))

    def test_like_signs(self):
        self.assertEqual(read_expression("x / y * x rest y"), ("rest", ("mul", ("div", X, Y), X), Y))
        self.assertEqual(read_expression("x - y + x"), ("add", ("sub", X, Y), X))
        self.assertEqual(read_expression("x or y and x or y"), ("or", ("or", X, ("and", Y, X)), Y))
        self.assertEqual(read_expression("not x < y"), ("less", ("not", X), Y))
        for text in ("x < y < x", "x = y = x", "x < y = x", "x + 1 < y = x"):
            self.assertIsNone(read(text))
        self.assertEqual(read_expression("x < y and y < x"), ("and", ("less", X, Y), ("less", Y, X)))

    def test_numbers(self):
        for text, number in (("0", 0), ("7", 7), ("-7", -7), ("2147483647", 2 ** 31 - 1), ("-2147483648", -2 ** 31)):
            self.assertEqual(read_expression(text), num(number))
        for text in ("00", "07", "-07", "-0", "-00", "2147483648", "-2147483649", "1" * 5000, "-" + "9" * 5000, "1.5",
                     "+1",
                     "1e3", "0x1", "x - -0"):
            self.assertIsNone(read(text), text)
        self.assertEqual(read_expression("x-0"), ("sub", X, num(0)))
        self.assertEqual(read_expression("-(0)"), ("minus", num(0)))

    def test_behind_minus(self):
        for text in ("--x", "- -x", "--1", "-not x", "- 1", "-(", "-", "--(x)", "-+x", "not", "not -"):
            self.assertIsNone(read(text), text)
        self.assertEqual(read_expression("-(-x)"), ("minus", ("minus", X)))
        self.assertEqual(read_expression("x - -y"), ("sub", X, ("minus", Y)))

    def test_what_is_none(self):
        for text in ("", " ", "z", "X", "c4", "s8", "draw", "draw x", "draw()", "cell(x)", "cell(x, y, x)",
                     "press(x, y)", "x(y)",
                     "x,", ",", "x, y", "x +", "+ x", "x + + y", "x == y", "x > y", "x and", "x\n", "\nx", "x ! y",
                     "x & y",
                     "not(x", "1(x)", "or", "c0c1", "x not y", "tick tick", "add(x, y)", "x rest", "(x)(y)", "~",
                     "x;", "x'"):
            self.assertEqual(raised(read_expression, text), (BadText, {"line": 1}), text)

    def test_too_deep_and_too_great(self):
        self.assertEqual(read_expression("not " * 9 + "x"), read_expression("(" + "not " * 9 + "(x))"))
        self.assertIsNone(read("not " * 10 + "x"))
        self.assertIsNotNone(read("+".join(["x"] * 10)))
        self.assertIsNone(read("+".join(["x"] * 11)))
        wide = "((x+x)+(x+x))+((x+x)+(x+x))"
        self.assertIsNotNone(read(f"({wide})+({wide})"))
        self.assertIsNone(read(f"(({wide})+({wide}))+({wide})"))

    def test_no_string(self):
        for thing in all_things():
            if isinstance(thing, str):
                self.assertIn(raised(read_expression, thing), (None, (BadText, {"line": 1})))
            else:
                self.assertEqual(raised(read_expression, thing), (BadText, {"line": 0}))

    def test_against_another_reading(self):
        chance = random.Random(202)
        tokens = ["x", "y", "c0", "1", "0", "12", "not", "-", "-", "(", "(", ")", ")", "+", "*", "/", "rest", "<",
                  "=", "and",
                  "or", "draw(", "cell(", ",", "3", "press", "-7"]
        right = 0
        for _ in range(20000):
            parts = [chance.choice(tokens) for _ in range(chance.randrange(1, 7))]
            text = "".join([part + chance.choice(("", " ", " ")) for part in parts])
            self.assertEqual(read(text), told(text), text)
            right += told(text) is not None
        self.assertGreater(right, 1000)

    def test_texts_with_one_sign_otherwise(self):
        chance = random.Random(203)
        for _ in range(3000):
            expression = grown_expression(chance, 4)
            if raised(expression_text, expression) is None:
                text = expression_text(expression)
                at = chance.randrange(len(text))
                for sign in ("", " ", chance.choice("x10()-+<=,a")):
                    changed = text[:at] + sign + text[at + chance.randrange(2):]
                    self.assertEqual(read(changed), told(changed), changed)


if __name__ == "__main__":
    unittest.main()
