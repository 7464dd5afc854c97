"""[14.2]: the sources of programs."""

import random
import unittest

from guessedworlds.errors import BadProgram, BadText, NoProgram
from guessedworlds.programs import Program
from guessedworlds.sources import read_source, source_of
from tests.things import all_things, grown_handler, name, num, raised

X, ONE = name("x"), num(1)
SET = ("set", "c0", X)


def lines(*rows):
    return "".join([row + "\n" for row in rows])


def within(*rows):
    """The source of a handler with these rows."""
    return lines("on tick", *rows, "end")


class Sources(unittest.TestCase):
    def test_each_statement(self):
        for statement, rows in (
            (("set", "dx", ("minus", X)), ("dx = -x",)), (("set", "s7", ("same", X, ONE)), ("s7 = x = 1",)),
            (("make", 0, X, ONE, ("add", X, ONE)), ("make 0, x, 1, x + 1",)),
            (("make", 7, ONE, ONE, ONE), ("make 7, 1, 1, 1",)),
            (("push", X, num(-1), ("cell", X, ONE)), ("push x, -1, cell(x, 1)",)), (("gone",), ("gone",)),
            (("say", ("not", X)), ("say not x",)), (("if", X, (), ()), ("if x", "end")),
            (("if", X, (SET,), ()), ("if x", "  c0 = x", "end")),
            (("if", X, (), (SET,)), ("if x", "else", "  c0 = x", "end")),
            (("if", X, (("gone",),), (SET, SET)), ("if x", "  gone", "else", "  c0 = x", "  c0 = x", "end")),
            (("while", X, ()), ("while x", "end")), (("while", X, (SET,)), ("while x", "  c0 = x", "end")),
            (("while", X, (("if", ONE, (SET,), (("while", X, ()),)),)),
             ("while x", "  if 1", "    c0 = x", "  else", "    while x", "    end", "  end", "end")),
        ):
            program = Program({"tick": (statement,)})
            source = within(*["  " + row for row in rows])
            self.assertEqual(source_of(program), source)
            self.assertEqual(read_source(source), program)

    def test_handlers_in_their_order(self):
        program = Program({"wall": (("gone",),), "tick": (), "touch": (SET,)})
        text = lines("on tick", "end", "on touch", "  c0 = x", "end", "on wall", "  gone", "end")
        self.assertEqual(source_of(program), text)
        self.assertEqual(read_source(lines("on wall", "gone", "end", "on touch", "c0 = x", "end", "on tick", "end")),
                         program)
        self.assertEqual(source_of(Program({})), "")
        self.assertEqual((read_source(""), read_source("\n\n ! x\n")), (Program({}), Program({})))
        self.assertEqual(source_of(Program({"touch": ()})), "on touch\nend\n")

    def test_no_program(self):
        for thing in all_things():
            expected = None if isinstance(thing, Program) else (NoProgram, {})
            self.assertEqual(raised(source_of, thing), expected)

    def test_what_is_nothing(self):
        program = Program({"tick": (("if", X, (SET,), ()), ("push", X, ONE, X))})
        for text in (
            within("if x", "c0 = x", "end", "push x,1,x"), within(" if x ", "      c0=x", "end  ", "push   x , 1 , x"),
            lines("", "! a", "   on   tick  ", "", "  ! if x", "if x", "   ", "c0 = (x)", "!end", "end",
                  "push (x),1,x", " end", ""),
            within("if x", "c0 = x", "end", "push x, 1, x")[:-1],
            within("if x", "c0 = x", "else", "end", "push x, 1, x"),
            within("if x", "c0 = x", "else", "  ! nothing", "", "end", "push x, 1, x") + "\n   ",
        ):
            self.assertEqual(read_source(text), program)
            self.assertEqual(source_of(read_source(text)), source_of(program))

    def test_grown_ones_are_read_back(self):
        chance = random.Random(211)
        for _ in range(300):
            words = [word for word in ("tick", "touch", "wall") if chance.randrange(2)]
            program = Program({word: grown_handler(chance) for word in words})
            source = source_of(program)
            self.assertEqual(read_source(source), program)
            rows = []
            for row in source.split("\n")[:-1]:
                rows.extend(["  ! x"] * chance.randrange(2))
                rows.append(" " * chance.randrange(3) + row.strip() + " " * chance.randrange(2))
            changed = "\n".join(rows) + chance.choice(("", "\n", "\n\n"))
            self.assertEqual(source_of(read_source(changed)), source)


class Wrong(unittest.TestCase):
    def bad(self, line, text):
        self.assertEqual(raised(read_source, text), (BadText, {"line": line}), text)

    def test_no_string(self):
        for thing in all_things():
            outcome = raised(read_source, thing)
            if not isinstance(thing, str):
                self.assertEqual(outcome, (BadText, {"line": 0}))
            elif thing.strip(" \n") == "":
                self.assertIsNone(outcome)
            else:
                self.assertEqual(outcome, (BadText, {"line": 1}))

    def test_lines_that_have_none_of_the_forms(self):
        for row in (
            "c0 x", "c0 =", "= x", "x = 1", "c4 = 1", "tick = 1", "c0 == 1", "c0 = 1, 2", "c0 = 2147483648", "c0 = (",
            "C0 = 1",
            "make 0, x, x", "make 0, x, x, x, x", "make x, 1, 1, 1", "make 00, 1, 1, 1", "make -1, 1, 1, 1",
            "make (1), 1, 1, 1",
            "make 0 x, x, x", "make0, x, x, x", "make 0", "make", "make 0,", "push x, x", "push x, x, x, x", "push",
            "push x x x",
            "gone x", "gone()", "say", "say x, x", "sayx", "if", "while", "if x, x", "else x", "end x", "set c0 = 1",
            "c0 = 1 ! x",
            "c0 = 1;", "on touch", "on", "and", "say x = ", "say 1 2", "ifx", "say not", "say " + "not " * 10 + "x",
            "#", "'x'",
            "say x\ty", "mike 0, x, x, x", "make 0 = x, x, x", "c0 + 1", "c0 , 1", "c0 < 1", "say 0, x, x, x",
            "x 0, x, x, x",
        ):
            self.bad(2, within(row))
            self.bad(4, within("if x", "gone", row, "end"))
        for row in ("on", "on tick x", "on walk", "ontick", "on(tick)", "gone", "c0 = 1", "end", "else", "if x",
                    "On tick", "tick"):
            self.bad(1, lines(row, "end"))
            self.bad(3, lines("on touch", "end", row, "end"))

    def test_lines_that_can_not_stand_there(self):
        self.bad(3, lines("on tick", "end", "on tick", "end"))
        self.bad(2, lines("on tick", "on touch", "end", "end"))
        self.bad(2, within("else"))
        self.bad(3, within("while x", "else", "end"))
        self.bad(4, within("if x", "else", "else", "end"))
        self.bad(4, within("if x", "end", "else"))
        self.bad(3, lines("on tick", "end", "end"))
        self.bad(5, lines("! a", "", "on tick", "end", "gone"))
        self.bad(2, lines("on tick", "end x", "walk"))

    def test_an_end_that_lacks(self):
        for text, line in (("on tick", 2), ("on tick\n", 2), ("on tick\n\n", 3), ("on tick\n  ", 3),
                           (" \non tick\nif x\nend\n", 5),
                           (lines("on tick", "while x", "! end"), 4),
                           (lines("on tick", "end", "on wall", "if x", "else", "end"), 7)):
            self.bad(line, text)

    def test_bad_programs(self):
        def program(text):
            return raised(read_source, text)
        self.assertIsNone(program(within(*["gone"] * 50)))
        self.assertEqual(program(within(*["gone"] * 51)), (BadProgram, {"part": "tick"}))
        self.assertEqual(program(lines("on wall", *["gone"] * 51, "end")), (BadProgram, {"part": "wall"}))
        both = lines("on wall", *["gone"] * 51, "end", "on touch", *["gone"] * 51, "end")
        self.assertEqual(program(both), (BadProgram, {"part": "touch"}))
        self.assertIsNone(program(within(*["if x"] * 4, *["end"] * 4)))
        for deep in (5, 6, 1500):
            self.assertEqual(program(within(*["if x"] * deep, *["end"] * deep)), (BadProgram, {"part": "tick"}))
        great = "say " + " + ".join(["x"] * 10)
        self.assertIsNone(program(within(*[great] * 21)))
        self.assertEqual(program(within(*[great] * 22)), (BadProgram, {"part": "tick"}))
        for kind in ("8", "10", "1" * 20, "9" * 5000):
            self.assertEqual(program(within(f"make {kind}, x, x, x")), (BadProgram, {"part": "tick"}))
        # A wrong line is told ahead of a wrong program.
        self.bad(53, within(*["gone"] * 51, "walk"))


if __name__ == "__main__":
    unittest.main()
