"""Disks [8.3]."""

import random
import unittest

from sameround.disks import Disk, kept_parcels
from sameround.errors import NoBlocks, NoCut, NoNumber, NoRow
from sameround.rows import sealed

from tests import lasting
from tests.helpers import no_integers, no_tuples, raised


def made(synced, waiting):
    """A disk with rows that are synced, and rows that wait."""
    disk = Disk()
    for block in synced:
        disk.write(block)
    disk.sync()
    for block in waiting:
        disk.write(block)
    return disk


def seen(disk):
    return lasting.strict((disk.blocks(), disk.synced()))


class Writes(unittest.TestCase):
    def test_write_and_sync(self):
        disk = Disk()
        self.assertEqual((disk.blocks(), disk.synced(), disk.sync()), ([], 0, 0))
        self.assertEqual(disk.write((1, 2)), 0)
        self.assertEqual(disk.write(()), 1)
        self.assertEqual((disk.blocks(), disk.synced()), ([(1, 2), ()], 0))
        self.assertEqual(disk.sync(), 2)
        self.assertEqual((disk.sync(), disk.synced()), (0, 2))
        self.assertEqual(disk.write((255,)), 2)
        self.assertEqual((disk.synced(), disk.sync(), disk.synced()), (2, 1, 3))
        self.assertEqual(disk.blocks(), [(1, 2), (), (255,)])

    def test_no_rows(self):
        disk = made([(1,)], [(2,)])
        ahead = seen(disk)
        things = [*no_integers(), *no_tuples(), (256,), (-1,), (True,), (0, False), ((0,),), (None,), [1]]
        for thing in things:
            if not lasting.is_row(thing):
                self.assertIs(raised(disk.write, thing).__class__, NoRow)
        self.assertEqual(seen(disk), ahead)

    def test_lists_are_new(self):
        disk = made([(1,)], [(2,)])
        disk.blocks().clear()
        disk.blocks()[0] = (3,)
        self.assertEqual(disk.blocks(), [(1,), (2,)])

    def test_copies(self):
        disk = made([(1,), (2,)], [(3, 4)])
        other = disk.copy()
        self.assertIs(other.__class__, Disk)
        self.assertEqual(seen(other), seen(disk))
        self.assertFalse(other == disk)
        ahead = seen(disk)
        other.write((5,))
        other.cut((1, 0))
        self.assertEqual(seen(disk), ahead)
        self.assertEqual(other.blocks(), [(1,), (2,), (3,), ()])
        third = disk.copy()
        disk.drop(1)
        disk.write((9,))
        disk.sync()
        self.assertEqual(seen(third), ahead)


class Cuts(unittest.TestCase):
    def test_what_is_left(self):
        for kept, blocks in (((0, 0), [(1, 2), (), ()]), ((3, 2), [(1, 2), (3, 4, 5), (6, 7)]),
                             ((1, 2), [(1, 2), (3,), (6, 7)]), ((2, 1), [(1, 2), (3, 4), (6,)]),
                             ((0, 2), [(1, 2), (), (6, 7)])):
            disk = made([(1, 2)], [(3, 4, 5), (6, 7)])
            self.assertIsNone(disk.cut(kept))
            self.assertEqual((disk.blocks(), disk.synced(), disk.sync()), (blocks, 3, 0))
            self.assertIsNone(disk.cut(()))
            self.assertEqual(disk.blocks(), blocks)
            self.assertIs(raised(disk.cut, kept).__class__, NoCut)

    def test_none_waits(self):
        disk = Disk()
        self.assertIsNone(disk.cut(()))
        self.assertEqual(seen(disk), seen(Disk()))
        disk = made([(1,)], [])
        disk.cut(())
        self.assertEqual(disk.blocks(), [(1,)])
        disk = made([], [()])
        disk.cut((0,))
        self.assertEqual((disk.blocks(), disk.synced()), ([()], 1))

    def test_no_cuts(self):
        disk = made([(1, 2)], [(3, 4, 5), (6,), ()])
        ahead = seen(disk)
        things = [*no_integers(), *no_tuples(), (), (3, 1), (3, 1, 0, 0), (2, 3, 1, 0), (4, 1, 0), (3, 2, 0), (3, 1, 1), (-1, 0, 0),
                  [3, 1, 0], (3, True, 0), (3, 1, False), (True, 1, 0), (3, None, 0), (0,) * 5000, ((3, 1, 0),), ((3,), 1, 0)]
        things.extend([(3, thing, 0) for thing in no_integers()])
        for thing in things:
            self.assertIs(raised(disk.cut, thing).__class__, NoCut)
        self.assertEqual(seen(disk), ahead)
        for thing in (None, False, [], (0,), (False,), {}):
            self.assertIs(raised(made([(1,)], []).cut, thing).__class__, NoCut)


class Drops(unittest.TestCase):
    def test_drops(self):
        for number, blocks, synced in ((0, [], 0), (1, [(1,)], 1), (2, [(1,), (2,)], 2), (3, [(1,), (2,), (3,)], 2),
                                       (4, [(1,), (2,), (3,), (4,)], 2)):
            disk = made([(1,), (2,)], [(3,), (4,)])
            self.assertIsNone(disk.drop(number))
            self.assertEqual((disk.blocks(), disk.synced()), (blocks, synced))
            self.assertEqual(disk.write((5,)), number)
            self.assertEqual(disk.sync(), number + 1 - synced)

    def test_no_numbers(self):
        disk = made([(1,), (2,)], [(3,), (4,)])
        ahead = seen(disk)
        for number in (5, 6, -1, 10 ** 20 - 1, *no_integers()):
            self.assertIs(raised(disk.drop, number).__class__, NoNumber)
        self.assertEqual(seen(disk), ahead)
        self.assertIs(raised(Disk().drop, 1).__class__, NoNumber)
        self.assertIs(raised(Disk().drop, False).__class__, NoNumber)
        self.assertIsNone(Disk().drop(0))


class AnyOrder(unittest.TestCase):
    def test_against_a_second_account(self):
        for seed in range(200):
            chance = random.Random(seed)
            disk, lasts, waits = Disk(), [], []
            for _ in range(chance.randint(1, 40)):
                word = chance.choice(["write", "write", "write", "sync", "cut", "drop", "copy"])
                if word == "write":
                    block = tuple(chance.randrange(256) for _ in range(chance.randint(0, 6)))
                    self.assertEqual(disk.write(block), len(lasts) + len(waits))
                    waits.append(block)
                elif word == "sync":
                    self.assertEqual(disk.sync(), len(waits))
                    lasts, waits = lasts + waits, []
                elif word == "cut":
                    kept = tuple(chance.choice([0, len(block), chance.randint(0, len(block))]) for block in waits)
                    disk.cut(kept)
                    lasts, waits = lasts + [block[:many] for block, many in zip(waits, kept)], []
                elif word == "drop":
                    number = chance.randint(0, len(lasts) + len(waits))
                    disk.drop(number)
                    lasts, waits = lasts[:number], waits[:max(0, number - len(lasts))]
                else:
                    disk = disk.copy()
                self.assertEqual((disk.blocks(), disk.synced()), (lasts + waits, len(lasts)))


class Kept(unittest.TestCase):
    def test_as_far_as_each_is_sealed(self):
        parcels = [None, ("deed", ("start",)), True, 300, ()]
        blocks = [sealed(parcel) for parcel in parcels]
        self.assertEqual(lasting.strict(kept_parcels(blocks)), lasting.strict(parcels))
        self.assertEqual(lasting.strict(kept_parcels(tuple(blocks))), lasting.strict(parcels))
        self.assertEqual(kept_parcels([]), [])
        self.assertEqual(kept_parcels(()), [])
        for at in range(5):
            for bad in ((), (0,), blocks[at][:-1], (*blocks[at], 0), (*blocks[at][:-1], blocks[at][-1] ^ 1), (7, 1, 0, 0, 0)):
                told = kept_parcels([*blocks[:at], bad, *blocks[at + 1:]])
                self.assertEqual(lasting.strict(told), lasting.strict(parcels[:at]))
                told.append("more")
                self.assertEqual(len(kept_parcels([*blocks[:at], bad, *blocks[at:]])), at)

    def test_of_a_disk(self):
        disk = made([sealed(1), sealed("a")], [sealed((2, 3)), sealed(4)])
        disk.cut((len(sealed((2, 3))) - 1, len(sealed(4))))
        self.assertEqual(kept_parcels(disk.blocks()), [1, "a"])
        self.assertEqual(len(disk.blocks()), 4)

    def test_no_blocks(self):
        good = sealed(5)
        things = [*no_integers(), *no_tuples(), good, [list(good)], [good, None], [good, good, (True,)], [(), (256,)],
                  (good, (-1,)), [good, [good]], {0: good}, iter([good]), "", b"", Disk(), [(7,), None], [sealed(1)[:-1], 3]]
        things.extend([[good, thing] for thing in no_integers() if not lasting.is_row(thing)])
        for thing in things:
            if not isinstance(thing, (list, tuple)) or not all([lasting.is_row(one) for one in thing]):
                self.assertIs(raised(kept_parcels, thing).__class__, NoBlocks)
        self.assertEqual(kept_parcels(((0, 1),) * 5000), [])

    def test_what_is_passed_is_not_changed(self):
        blocks = [sealed(5), (0,), sealed(6)]
        kept_parcels(blocks)
        self.assertEqual(blocks, [sealed(5), (0,), sealed(6)])


class Equality(unittest.TestCase):
    def test_equal_to_nothing_else(self):
        for thing in [*no_integers(), *no_tuples()]:
            self.assertFalse(Disk() == thing)


if __name__ == "__main__":
    unittest.main()
