"""[12.1], [12.2], [12.3]: disks, records, deeds that are kept."""

import random
import unittest

from guessedworlds.books import Book, rebuilt
from guessedworlds.disks import Disk, deed_row, kept_deeds, read_deed, read_record, record
from guessedworlds.errors import NoBlocks, NoCut, NoDeed, NoNumber, NoRow
from guessedworlds.inputrows import input_row
from guessedworlds.rows import whole
from tests.things import all_things, is_from, is_row, only_named, raised, with_part

FAR = 100000


class Disks(unittest.TestCase):
    def state(self, disk):
        return (disk.blocks(), disk.synced())

    def test_write_and_sync(self):
        disk = Disk()
        self.assertEqual(self.state(disk), ([], 0))
        self.assertEqual((disk.sync(), disk.write((1, 2)), disk.write(())), (0, 0, 1))
        self.assertEqual(self.state(disk), ([(1, 2), ()], 0))
        self.assertEqual((disk.sync(), disk.sync(), disk.write((3,))), (2, 0, 2))
        self.assertEqual(self.state(disk), ([(1, 2), (), (3,)], 2))
        self.assertEqual((disk.sync(), disk.synced()), (1, 3))

    def test_cut(self):
        for kept, rows in (((0, 0), [(), ()]), ((3, 1), [(1, 2, 3), (4,)]), ((2, 0), [(1, 2), ()]),
                           ((0, 1), [(), (4,)])):
            disk = Disk()
            disk.write((9, 9))
            disk.sync()
            disk.write((1, 2, 3))
            disk.write((4,))
            self.assertIsNone(disk.cut(kept))
            self.assertEqual(self.state(disk), ([(9, 9), *rows], 3))
            self.assertIsNone(disk.cut(()))
            self.assertEqual((disk.write((7,)), disk.synced()), (3, 3))

    def test_no_cut_changes_nothing(self):
        disk = Disk()
        disk.write((9, 9))
        disk.sync()
        disk.write((1, 2, 3))
        disk.write(())
        for kept in ((), (3,), (3, 0, 0), (4, 0), (3, 1), (-1, 0), [3, 0], (True, 0), (3, False), (None, 0), 3, None,
                     {0: 3}):
            self.assertEqual(raised(disk.cut, kept), (NoCut, {}))
        self.assertEqual(self.state(disk), ([(9, 9), (1, 2, 3), ()], 1))
        only_named(self, lambda thing: disk.copy().cut(thing), (NoCut, {}), lambda thing: False)
        only_named(self, lambda thing: disk.copy().cut((thing, 0)), (NoCut, {}), is_from(0, 3))

    def test_drop(self):
        disk = Disk()
        for byte in range(5):
            disk.write((byte,))
            if byte == 2:
                disk.sync()
        for number in (-1, 6, None, True, "1", (1,)):
            self.assertEqual(raised(disk.drop, number), (NoNumber, {}))
        self.assertEqual(self.state(disk), ([(0,), (1,), (2,), (3,), (4,)], 3))
        for number, synced in ((5, 3), (4, 3), (3, 3), (2, 2), (2, 2), (0, 0), (0, 0)):
            self.assertIsNone(disk.drop(number))
            self.assertEqual(self.state(disk), ([(byte,) for byte in range(number)], synced))
        self.assertEqual(disk.write((8,)), 0)
        only_named(self, lambda thing: disk.copy().drop(thing), (NoNumber, {}), is_from(0, 1))

    def test_no_row_changes_nothing(self):
        disk = Disk()
        for thing in ([1], (256,), (True,), None, "1", (1,) * 300001):
            self.assertEqual(raised(disk.write, thing), (NoRow, {}))
        self.assertEqual(self.state(disk), ([], 0))
        only_named(self, disk.write, (NoRow, {}), is_row)

    def test_copies_and_lists_that_are_handed_out(self):
        disk = Disk()
        disk.write((1,))
        other = disk.copy()
        self.assertEqual(self.state(other), ([(1,)], 0))
        other.sync()
        other.write((2,))
        disk.blocks().append((7,))
        self.assertEqual((self.state(disk), self.state(other)), (([(1,)], 0), ([(1,), (2,)], 1)))
        disk.drop(0)
        self.assertEqual(self.state(other), ([(1,), (2,)], 1))
        self.assertNotEqual(disk, other)


class Records(unittest.TestCase):
    def test_there_and_back(self):
        for many in (0, 1, 2, 127, 128, 129, 16383, 16384, 299900):
            row = tuple([at % 256 for at in range(many)])
            self.assertEqual(record(row), whole(many) + row)
            self.assertEqual(read_record(record(row)), row)

    def test_no_true_beginning_is_one(self):
        for many in (0, 1, 5, 127, 128, 300):
            found = record((7,) * many)
            for end in range(len(found)):
                self.assertIsNone(read_record(found[:end]))
            self.assertIsNone(read_record(found + (0,)))

    def test_what_is_none(self):
        for row in ((), (1,), (0, 0), (2, 1), (2, 1, 1, 1), (128,), (128, 0), (129, 0, 5), (255,) * 9 + (1,),
                    (255,) * 11,
                    (128, 1) + (0,) * 127):
            self.assertIsNone(read_record(row))
        self.assertEqual((read_record((0,)), read_record((128, 1) + (0,) * 128)), ((), (0,) * 128))

    def test_no_row(self):
        only_named(self, record, (NoRow, {}), is_row)
        only_named(self, read_record, (NoRow, {}), is_row)


class Deeds(unittest.TestCase):
    def test_there_and_back(self):
        for deed, row in (
            (("open", 0, 0), (1, 0, 0)), (("open", 3, FAR), (1, 3, *whole(FAR))), (("close", 0), (3, 0)),
            (("close", 3), (3, 3)),
            (("tell", 2, 300, (5, 5, 0)), (2, 2, 172, 2, 2, 5, 2, 0, 1)), (("tell", 0, 0, ()), (2, 0, 0, 0)),
            (("tell", 1, FAR, (255,) * FAR), (2, 1, *whole(FAR), *input_row((255,) * FAR))),
        ):
            self.assertEqual(deed_row(deed), row)
            self.assertEqual(read_deed(row), deed)

    def test_no_deed(self):
        for thing in (
            ("open", 0), ("open", 4, 0), ("open", -1, 0), ("open", 0, FAR + 1), ("open", 0, -1), ("open", True, 0),
            ("open", 0, False),
            ("open", 0, 0, ()), ("close",), ("close", 4), ("close", 0, 0), ("tell", 0, 0), ("tell", 0, 0, [1]),
            ("tell", 0, 0, (256,)),
            ("tell", 0, 0, (1,) * (FAR + 1)), ("tell", 4, 0, (1,)), ("tell", 0, FAR + 1, ()), ("tell", 0, 0, (1,), 0),
            ("shut", 0),
            ["open", 0, 0], (), ("open",), (1, 0, 0), None, "open", ("tell", None, 0, ()),
        ):
            self.assertEqual(raised(deed_row, thing), (NoDeed, {}))
        right = [("open", 0, 0), ("tell", 0, 0, (1,)), ("close", 0)]
        only_named(self, deed_row, (NoDeed, {}), lambda thing: thing in right)
        for deed in right:
            for at, part in enumerate(deed):
                fits = (lambda thing: False, is_from(0, 3), is_from(0, FAR),
                        lambda thing: is_row(thing) and len(thing) <= FAR)[at]
                only_named(self, lambda thing: deed_row(with_part(deed, at, thing)), (NoDeed, {}),
                           lambda thing: fits(thing) or (at == 0 and thing == part))

    def test_rows_of_none(self):
        for row in ((), (0,), (1,), (4, 0), (0, 0, 0), (1, 0), (1, 4, 0), (1, 0, 0, 0), (1, 128, 0, 0), (3,), (3, 4),
                    (3, 0, 0),
                    (1, 0, *whole(FAR + 1)), (2, 0, 0), (2, 0, 0, 1), (2, 0, 0, 1, 5), (2, 0, 0, 1, 5, 0),
                    (2, 0, 0, 2, 5, 1, 5, 1),
                    (2, 0, 0, 0, 0), (2, 0, *whole(FAR + 1), 0), (2, 4, 0, 0), (131, 0, 0)):
            self.assertIsNone(read_deed(row))
        only_named(self, read_deed, (NoRow, {}), is_row)

    def test_rows_with_a_byte_otherwise(self):
        chance = random.Random(241)
        for _ in range(2000):
            row = deed_row(chance.choice((("open", 2, 77), ("close", 1), ("tell", 3, 129, (4, 4, 9)))))
            at = chance.randrange(len(row) + 1)
            row = row[:at] + chance.choice(((), (chance.randrange(256),))) + row[at + chance.randrange(2):]
            deed = read_deed(row)
            if deed is not None:
                self.assertEqual(deed_row(deed), row)


class Kept(unittest.TestCase):
    DEEDS = [("open", 0, 0), ("tell", 0, 0, (1, 2)), ("open", 1, 2), ("tell", 1, 2, (9,)), ("tell", 0, 2, (3, 3)),
             ("close", 1)]

    def blocks(self, deeds):
        return [record(deed_row(deed)) for deed in deeds]

    def test_as_far_as_they_go(self):
        blocks = self.blocks(self.DEEDS)
        for thing in (blocks, tuple(blocks)):
            self.assertEqual(kept_deeds(2, thing), self.DEEDS)
        self.assertEqual((kept_deeds(2, []), kept_deeds(4, ())), ([], []))
        for at in range(len(blocks)):
            self.assertEqual(kept_deeds(2, blocks[:at]), self.DEEDS[:at])
            for other in ((), blocks[at][:-1], blocks[at] + (0,), (0,), record((9, 9)), record(()),
                          deed_row(self.DEEDS[at])):
                self.assertEqual(kept_deeds(2, [*blocks[:at], other, *blocks[at + 1:]]), self.DEEDS[:at])
                self.assertEqual(kept_deeds(2, [*blocks[:at], other, *blocks[at:]]), self.DEEDS[:at])

    def test_what_the_book_refuses(self):
        for deeds, many in (
            ([("open", 0, 0), ("open", 0, 0)], 1), ([("close", 0)], 0), ([("tell", 0, 0, (1,))], 0),
            ([("open", 2, 0)], 0),
            ([("open", 0, 5), ("tell", 0, 6, (1,))], 1), ([("open", 0, 0), ("tell", 0, 0, ())], 1),
            ([("open", 0, 0), ("tell", 0, 0, (1, 2)), ("tell", 0, 1, (2, 3))], 2),
            ([("open", 0, 3), ("open", 1, 2)], 1),
            ([("open", 0, 0), ("tell", 0, 0, (1,)), ("tell", 0, 0, (1,))], 2),
            ([("open", 0, 0), ("close", 0), ("close", 0)], 2),
            ([("open", 0, FAR - 1), ("tell", 0, FAR - 1, (1, 1))], 1),
            ([("open", 0, FAR - 1), ("tell", 0, FAR - 1, (1,))], 2),
        ):
            self.assertEqual(kept_deeds(2, self.blocks(deeds)), deeds[:many])
        self.assertEqual(kept_deeds(1, self.blocks(self.DEEDS)), self.DEEDS[:2])

    def test_errors_in_order(self):
        only_named(self, lambda thing: kept_deeds(thing, []), (NoNumber, {}), is_from(1, 4))
        self.assertEqual(raised(kept_deeds, 5, None), (NoNumber, {}))
        for thing in (None, (1,), [(256,)], [(1,), None], "", {}, [[1]], ((), (True,))):
            self.assertEqual(raised(kept_deeds, 2, thing), (NoBlocks, {}))
        rows = lambda thing: isinstance(thing, (list, tuple)) and all([is_row(row) for row in thing])
        only_named(self, lambda thing: kept_deeds(2, thing), (NoBlocks, {}), rows)

    def test_the_fact_of_kept_deeds(self):
        chance = random.Random(242)
        for _ in range(60):
            book = Book(3)
            for _ in range(20):
                seat, many = chance.randrange(3), chance.randrange(4)
                calls = [(book.open_seat, seat, book.settled()), (book.close_seat, seat)]
                calls += [(book.tell, seat, book.ending(seat), (chance.randrange(256),) * many)] * 6
                raised(*chance.choice(calls))
            deeds = book.deeds()
            blocks = self.blocks(deeds)
            self.assertEqual(kept_deeds(3, blocks), deeds)
            self.assertEqual(rebuilt(3, kept_deeds(3, blocks)).deeds(), deeds)
            if deeds:
                at = chance.randrange(len(deeds))
                cut = blocks[at][:chance.randrange(len(blocks[at]))]
                self.assertEqual(kept_deeds(3, [*blocks[:at], cut, *blocks[at + 1:]]), deeds[:at])


class Things(unittest.TestCase):
    def test_nothing_else_is_raised(self):
        for thing in all_things():
            for call in (record, read_record, deed_row, read_deed):
                outcome = raised(call, thing)
                self.assertIn(outcome, (None, (NoRow, {}), (NoDeed, {})))


if __name__ == "__main__":
    unittest.main()
