"""[0.3]: the classes of errors, their fields, how they are caught."""

import unittest

from guessedworlds import errors
from tests.things import all_things

FIELDS = {
    "NoNumber": None, "NoSeed": None, "BadGround": "part", "BadProgram": "part", "BadKind": "part",
    "BadGame": "part", "NoWorld": None, "NoBody": None, "NoWay": None, "NoInputs": None,
    "NoHandler": None, "NoCode": None, "NoRows": "index", "NoRow": None, "NoPlace": None,
    "BadRow": "place", "BadChange": "place", "NoSeat": None, "NotWaiting": None, "NoTick": None,
    "NotOpen": None, "Gap": None, "BadDeed": "index", "NoBook": None, "NoPeer": None, "NoRules": None,
    "NoPast": None, "NoLetter": None, "NoDeed": None, "BadDeeds": "index", "NoCut": None,
    "NoBlocks": None, "NoDisk": None, "OtherMatch": None, "BadTurns": "index", "OtherGame": None,
    "Strayed": "tick", "NoNode": None, "NoReplay": None, "NoExpression": None, "BadText": "line",
    "NoProgram": None, "NoPicture": None, "Unlike": None, "NoChanges": None, "NoLine": None,
    "NoName": "name",
}


def made(name, thing):
    """An error of this name, made with a thing if it has a field."""
    kind = getattr(errors, name)
    return kind() if FIELDS[name] is None else kind(thing)


class Classes(unittest.TestCase):
    def test_they_are_47_and_no_others(self):
        there = [name for name, worth in vars(errors).items() if isinstance(worth, type)]
        self.assertEqual(len(FIELDS), 47)
        self.assertEqual(sorted(there), sorted([*FIELDS, "WorldError"]))

    def test_each_derives_directly(self):
        self.assertEqual(errors.WorldError.__bases__, (ValueError,))
        for name in FIELDS:
            self.assertEqual(getattr(errors, name).__bases__, (errors.WorldError,), name)

    def test_each_is_caught_by_its_class_and_by_all_above(self):
        for name in FIELDS:
            for kind in (getattr(errors, name), errors.WorldError, ValueError):
                with self.assertRaises(kind):
                    raise made(name, 3)

    def test_none_is_caught_by_another_class(self):
        for name in FIELDS:
            for other in FIELDS:
                caught = isinstance(made(name, 3), getattr(errors, other))
                self.assertEqual(caught, name == other)


class Fields(unittest.TestCase):
    def test_each_keeps_whatever_was_passed(self):
        for name, field in FIELDS.items():
            for thing in all_things():
                error = made(name, thing)
                expected = [] if field is None else [field]
                self.assertEqual(list(vars(error)), expected)
                if field is not None:
                    self.assertIs(getattr(error, field), thing)

    def test_each_is_made_with_just_its_field(self):
        for name, field in FIELDS.items():
            kind = getattr(errors, name)
            self.assertRaises(TypeError, kind, 1, 2)
            if field is None:
                self.assertRaises(TypeError, kind, 1)
            else:
                self.assertRaises(TypeError, kind)

    def test_what_was_passed_is_kept_when_it_is_raised(self):
        for name, field in FIELDS.items():
            if field is not None:
                part = [[name], {"part": (None,)}]
                with self.assertRaises(errors.WorldError) as caught:
                    raise made(name, part)
                self.assertIs(getattr(caught.exception, field), part)
                self.assertEqual(part, [[name], {"part": (None,)}])


if __name__ == "__main__":
    unittest.main()
