"""[6.4]: changes of rows."""

import random
import unittest

from guessedworlds.changes import change, changed, is_change
from guessedworlds.errors import BadChange, NoRow
from guessedworlds.rows import whole
from tests.things import all_things, is_row, only_named, raised

ROW = (10, 11, 12, 13, 14, 15)


def keep(many):
    return whole(3 * many)


def leave(many):
    return whole(3 * many + 1)


def put(*more):
    return whole(3 * len(more) + 2) + more


class Changed(unittest.TestCase):
    def test_each_sort_of_part(self):
        self.assertEqual((keep(1), leave(1), put(9)), ((3,), (4,), (5, 9)))
        self.assertEqual(changed(ROW, keep(6)), ROW)
        self.assertEqual(changed(ROW, keep(2)), (10, 11))
        self.assertEqual(changed(ROW, leave(2)), ())
        self.assertEqual(changed(ROW, leave(2) + keep(3)), (12, 13, 14))
        self.assertEqual(changed(ROW, put(7, 8)), (7, 8))
        self.assertEqual(changed((), put(7, 8)), (7, 8))

    def test_parts_one_behind_the_other(self):
        self.assertEqual(changed(ROW, keep(1) + put(7) + keep(1) + leave(3) + put(8, 9) + keep(1)),
                         (10, 7, 11, 8, 9, 15))
        self.assertEqual(changed(ROW, keep(1) + keep(2) + leave(1) + leave(1) + put(1) + put(2)), (10, 11, 12, 1, 2))

    def test_what_is_left_out_at_the_end(self):
        self.assertEqual(changed(ROW, ()), ())
        self.assertEqual(changed((), ()), ())
        for many in range(1, 7):
            self.assertEqual(changed(ROW, keep(many)), ROW[:many])
            self.assertEqual(changed(ROW, keep(many) + put(1)), (*ROW[:many], 1))

    def test_long_parts(self):
        row = tuple([at % 256 for at in range(1000)])
        self.assertEqual(changed(row, leave(300) + keep(500) + put(*row)), row[300:800] + row)

    def assert_bad(self, row, wrong, place):
        self.assertEqual(raised(changed, row, wrong), (BadChange, {"place": place}))
        self.assertIs(is_change(row, row, wrong), False)

    def test_parts_of_no_bytes(self):
        for number in (0, 1, 2):
            self.assert_bad(ROW, (number,), 0)
            self.assert_bad(ROW, (*keep(2), number), 1)
            self.assert_bad(ROW, (*keep(2), number, *keep(1)), 1)
            self.assert_bad(ROW, (*put(1, 2, 3), number), 4)

    def test_beyond_the_rows_end(self):
        for part in (keep, leave):
            self.assert_bad(ROW, part(7), 0)
            self.assert_bad(ROW, put(1) + part(7), 2)
            self.assert_bad(ROW, keep(4) + put(1) + part(3), 3)
            self.assert_bad(ROW, leave(4) + part(3) + put(1), 1)
            self.assert_bad((), part(1), 0)
            self.assert_bad(ROW, part(10 ** 18), 0)
        self.assert_bad(ROW, keep(6) + leave(1), 1)
        self.assertEqual(changed(ROW, keep(4) + leave(2)), ROW[:4])

    def test_bytes_that_lack(self):
        self.assert_bad(ROW, put(1, 2, 3)[:-1], 0)
        self.assert_bad(ROW, keep(1) + put(1)[:-1], 1)
        self.assert_bad(ROW, keep(1) + whole(3 * 10 ** 18 + 2) + (1, 2), 1)

    def test_numbers_that_do_not_stand_there(self):
        for wrong in ((128,), (131, 0), (255,) * 9 + (2,), (128,) * 10 + (1,)):
            self.assert_bad(ROW, wrong, 0)
            self.assert_bad(ROW, keep(2) + wrong, 1)
        # The first one that is wrong is told.
        self.assert_bad(ROW, keep(2) + (0,) + (128,), 1)
        self.assert_bad(ROW, keep(9) + (0,), 0)

    def test_rows_that_grow(self):
        row = (5,) * 300000
        more = put(*(6,) * 299000)
        self.assertEqual(changed(row, keep(300000) + more), row + (6,) * 299000)


class Changes(unittest.TestCase):
    def check(self, one, other):
        """Checks a change of the one row to the other."""
        made = change(one, other)
        self.assertTrue(is_row(made) or len(other) > 299000)
        self.assertLessEqual(len(made), len(other) + 11)
        if one == other:
            self.assertLessEqual(len(made), 11)
        self.assertEqual(changed(one, made), other)
        self.assertIs(is_change(one, other, made), True)

    def test_grown_pairs(self):
        chance = random.Random(101)
        for _ in range(2000):
            one = tuple([chance.choice((0, 1, 255)) for _ in range(chance.randrange(9))])
            other = list(one if chance.randrange(3) else ())
            for _ in range(chance.randrange(5)):
                at = chance.randrange(len(other) + 1)
                other[at:at + chance.randrange(3)] = [chance.choice((0, 1, 255))] * chance.randrange(3)
            self.check(one, tuple(other))

    def test_equal_ones_and_empty_ones(self):
        for row in ((), (1,), ROW, ROW * 1000, (7,) * 300000):
            self.check(row, row)
            self.check((), row[:299000])
            self.check(row, ())

    def test_long_ones(self):
        chance = random.Random(102)
        one = tuple([chance.randrange(256) for _ in range(150000)])
        other = tuple([chance.randrange(256) for _ in range(150000)])
        for pair in ((one, other), (one, one[:-1]), (one, one[1:]), (one, (9, *one)), (one, one + other),
                     (one + other, one), (one[:70000] + other, one), (one, one[:70000] + (1,) + one[70001:]),
                     (one, other[:10] + one + other[:10]), (one[:1] + other + one[-1:], one)):
            self.check(*pair)

    def test_what_is_alike_is_kept(self):
        row = ROW * 100
        self.assertLessEqual(len(change(row, row[:300] + (99,) + row[300:])), 11)
        self.assertLessEqual(len(change(row, row[:300] + row[320:])), 11)


class Judged(unittest.TestCase):
    def test_other_changes_that_lead_there(self):
        for made in (keep(6), put(*ROW), leave(6) + put(*ROW), keep(3) + keep(3), keep(5) + leave(1) + put(15),
                     keep(2) + put(12) + leave(1) + keep(3)):
            self.assertIs(is_change(ROW, ROW, made), True)
            self.assertIs(is_change(ROW, ROW[:-1], made), False)
        self.assertIs(is_change(ROW, (), ()), True)
        self.assertIs(is_change(ROW, ROW, ()), False)
        self.assertIs(is_change(ROW, ROW, list(keep(6))), False)

    def test_all_else(self):
        for thing in [*all_things(), (256,), (3, -1), (18, True)]:
            with self.subTest(thing=repr(thing)[:60]):
                self.assertIs(is_change(ROW, ROW, thing), False)
                self.assertIs(is_change(ROW, (), thing), isinstance(thing, tuple) and thing == ())


class Wrong(unittest.TestCase):
    def test_the_order_of_errors(self):
        no_row = (NoRow, {})
        for one, other in (([], (0,)), ((256,), (0,)), ((1,), [3]), ((1,), (True,)), ((1,) * 300001, ()),
                           ((), (3,) * 300001), (None, None)):
            self.assertEqual(raised(changed, one, other), no_row)
            self.assertEqual(raised(change, one, other), no_row)
            self.assertEqual(raised(is_change, one, other, None), no_row)
        self.assertEqual(raised(changed, (1,), (0,)), (BadChange, {"place": 0}))

    def test_things_in_the_place_of_each_argument(self):
        no_row = (NoRow, {})
        only_named(self, lambda thing: changed(thing, ()), no_row, is_row)
        only_named(self, lambda thing: change(thing, ()), no_row, is_row)
        only_named(self, lambda thing: change((), thing), no_row, is_row)
        only_named(self, lambda thing: is_change(thing, (), ()), no_row, is_row)
        only_named(self, lambda thing: is_change((), thing, ()), no_row, is_row)
        for thing in all_things():
            if not is_row(thing):
                self.assertEqual(raised(changed, (), thing), no_row)


if __name__ == "__main__":
    unittest.main()
