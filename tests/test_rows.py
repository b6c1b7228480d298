"""Rows and seals [8.1], [8.2]."""

import random
import unittest

from sameround.disks import Disk
from sameround.errors import BadRow, NoParcel, NoRow
from sameround.links import Outgoing
from sameround.rows import is_parcel, mark, parcel_of, row_of, sealed, unsealed

from tests import lasting
from tests.helpers import nested, no_integers, no_tuples, raised

LETTERS = "".join(lasting.SIGNS)


def deep(many, inner=()):
    """So many tuples, one in the other, around what stands in the innermost."""
    thing = inner
    for _ in range(many - 1):
        thing = (thing,)
    return thing


def parcels():
    """Parcels of each sort."""
    made = [None, True, False, 0, 1, 127, 128, 129, 300, 16383, 16384, -1, -2, -127, -128, -129, -130, -16385,
            10 ** 20 - 1, 1 - 10 ** 20, 2 ** 63, -2 ** 63, 2 ** 200, "a", " ", "~", "\\\"'", "a" * 20, LETTERS[:20],
            (), (None,), (True, 1, 1, False, 0), ((), ((),), ((), ())), ("abc", (3, -4, "d")), deep(20),
            deep(20, (1, "x", None)), (deep(19), deep(19, (True,)), 5), (0,) * 127, ((),) * 128, (7,) * 5000]
    made.extend(LETTERS)
    made.extend([LETTERS[k:k + 20] for k in range(0, 80, 7)])
    return made


def drawn_parcel(chance, deepest):
    sort = chance.randrange(7 if deepest else 5)
    if sort < 2:
        return chance.choice([None, True, False, 0, 1])
    if sort < 4:
        return chance.choice([-1, 1]) * chance.randrange(10 ** chance.randint(1, 20))
    if sort == 4:
        return "".join(chance.choice(LETTERS) for _ in range(chance.randint(1, 20)))
    return tuple(drawn_parcel(chance, deepest - 1) for _ in range(chance.randint(0, 4)))


# No parcels, and none within tuples either.
NO_PARCELS = ["", "a" * 21, "%", "50%", "a\n", "\n", "\t", "\x7f", "\x1f", "a" * 20000, [], [1], {}, {1: 2}, b"", b"a",
              bytearray(b"a"), memoryview(b"a"), range(2), slice(0, 1), Ellipsis, NotImplemented, object(), int, len,
              Disk(), Outgoing(), NoRow(), BadRow(1), NoRow, [0] * 5000, nested(40, list), [()], deep(21), deep(40)]


class Rows(unittest.TestCase):
    def test_example(self):
        self.assertEqual(row_of((True, "a", 300)), (6, 3, 2, 5, 1, 97, 3, 172, 2))

    def test_by_hand(self):
        for parcel, row in ((None, (0,)), (False, (1,)), (True, (2,)), (0, (3, 0)), (1, (3, 1)), (127, (3, 127)),
                            (128, (3, 128, 1)), (300, (3, 172, 2)), (16384, (3, 128, 128, 1)), (-1, (4, 0)),
                            (-128, (4, 127)), (-129, (4, 128, 1)), ("a", (5, 1, 97)), ("~ ", (5, 2, 126, 32)), ((), (6, 0)),
                            (((), 5), (6, 2, 6, 0, 3, 5)), (("",)[1:], (6, 0))):
            self.assertEqual(row_of(parcel), row)
            self.assertEqual(lasting.strict(parcel_of(row)), lasting.strict(parcel))

    def test_there_and_back(self):
        for parcel in parcels():
            row = row_of(parcel)
            self.assertIs(row.__class__, tuple)
            self.assertEqual(row, tuple(lasting.row_of(parcel)))
            self.assertEqual(lasting.strict(parcel_of(row)), lasting.strict(parcel))

    def test_there_and_back_of_many(self):
        chance = random.Random(81)
        for _ in range(3000):
            parcel = drawn_parcel(chance, 5)
            self.assertIs(is_parcel(parcel), True)
            self.assertEqual(row_of(parcel), tuple(lasting.row_of(parcel)))
            self.assertEqual(lasting.strict(parcel_of(row_of(parcel))), lasting.strict(parcel))

    def test_no_parcels(self):
        for thing in NO_PARCELS:
            for parcel in (thing, (thing,), (1, (None, thing)), (thing, 1)):
                self.assertIs(is_parcel(parcel), False)
                self.assertIs(raised(row_of, parcel).__class__, NoParcel)
                self.assertIs(raised(sealed, parcel).__class__, NoParcel)

    def test_is_parcel(self):
        for parcel in parcels():
            self.assertIs(is_parcel(parcel), True)
        for number in range(128):
            self.assertIs(is_parcel(chr(number)), chr(number) in lasting.SIGNS)
        self.assertIs(is_parcel(deep(20)), True)
        self.assertIs(is_parcel(deep(19, ((), "%"))), False)
        self.assertIs(is_parcel(deep(20, ((),))), False)

    def test_the_fact_of_rows(self):
        seen = {}
        chance = random.Random(82)
        for parcel in parcels() + [drawn_parcel(chance, 3) for _ in range(300)]:
            row = row_of(parcel)
            self.assertEqual(seen.setdefault(row, lasting.strict(parcel)), lasting.strict(parcel))
            if len(row) < 200:
                for many in range(len(row)):
                    self.assertIs(raised(parcel_of, row[:many]).__class__, BadRow)
        self.assertEqual(len(set(seen.values())), len(seen))


class BadRows(unittest.TestCase):
    def check(self, row, place):
        wrong = raised(parcel_of, tuple(row))
        self.assertIs(wrong.__class__, BadRow)
        self.assertEqual(wrong.place, place)

    def test_by_hand(self):
        for row, place in (
                ((), 0), ((7,), 0), ((255, 0), 0), ((6, 1, 7), 2), ((6, 2, 0, 200), 3),
                # A whole that the row ends amid, alone or in tuples.
                ((3,), 1), ((3, 128), 1), ((4, 200, 255), 1), ((6,), 1), ((6, 130), 1), ((5,), 1), ((5, 129), 1),
                ((6, 2, 0, 3, 129), 4), ((6, 2, 0, 3), 4),
                # A needless 0.
                ((3, 128, 0), 1), ((4, 129, 0), 1), ((3, 129, 128, 0), 1), ((6, 129, 0, 0), 1), ((5, 129, 0, 97), 1),
                # No sign, or too many.
                ((5, 0), 1), ((5, 21), 1), ((5, 21, 97), 1), ((5, 148, 1, 37), 1), ((6, 1, 5, 0), 3),
                # What is no sign.
                ((5, 1, 37), 2), ((5, 1, 31), 2), ((5, 1, 127), 2), ((5, 3, 97, 10, 37), 3), ((5, 2, 97, 255), 3),
                # Something lacks.
                ((6, 1), 2), ((6, 3, 0, 1), 4), ((5, 2, 97), 3), ((5, 1), 2), ((5, 20, 97, 98), 4), ((6, 255, 255, 127, 0), 5),
                # Something stands behind.
                ((0, 0), 1), ((3, 5, 5), 2), ((6, 0, 6, 0), 2), ((5, 1, 97, 97), 3), ((6, 1, 0, 37, 200), 3),
                # One fault ahead of another one.
                ((6, 2, 5, 1, 37, 7), 4), ((6, 2, 7, 5, 1, 37), 2), ((6, 2, 3, 128, 0, 7, 0), 3), ((5, 3, 37, 97), 2),
                ((6, 3, 5, 0, 7), 3), ((5, 25), 1)):
            with self.subTest(row):
                self.check(row, place)
                self.assertEqual(lasting.read_row(row), (None, place))

    def test_nested_too_deep(self):
        self.assertEqual(parcel_of((6, 1) * 19 + (6, 0)), deep(20))
        self.check((6, 1) * 20, 40)
        for many in (21, 22, 40, 1000, 100000):
            self.check((6, 1) * (many - 1) + (6, 0), 40)
        self.check((6, 2, 0) * 20 + (6, 0), 60)
        self.check((6, 1) * 19 + (6, 2, 0, 6, 0), 41)

    def test_each_byte_otherwise(self):
        chance = random.Random(83)
        rows = [row_of(parcel) for parcel in parcels() if len(row_of(parcel)) < 90]
        for row in rows + [row_of(drawn_parcel(chance, 4)) for _ in range(200)]:
            for at in range(len(row)):
                for byte in (0, 1, 3, 5, 6, 7, 20, 21, 37, 126, 127, 128, 255, chance.randrange(256)):
                    other = (*row[:at], byte, *row[at + 1:])
                    parcel, place = lasting.read_row(other)
                    if place is None:
                        self.assertEqual(lasting.strict(parcel_of(other)), lasting.strict(parcel))
                        self.assertEqual(row_of(parcel), other)
                    else:
                        self.check(other, place)

    def test_cut_short_and_longer(self):
        for parcel in parcels():
            row = row_of(parcel)
            for many in range(0, len(row), 1 + len(row) // 100):
                self.check(row[:many], lasting.read_row(row[:many])[1])
            for byte in (0, 1, 37, 128, 255):
                self.check((*row, byte), len(row))

    def test_long_rows(self):
        self.check((3,) + (255,) * 20000, 1)
        self.check((3,) + (255,) * 20000 + (0,), 1)
        number = parcel_of((3,) + (255,) * 3000 + (1,))
        self.assertEqual(number, 2 ** 21001 - 1)
        self.assertEqual(row_of(number), (3,) + (255,) * 3000 + (1,))
        self.assertEqual(row_of(-1 - number), (4,) + (255,) * 3000 + (1,))
        self.assertEqual(parcel_of((6, *lasting.whole(20000)) + (1,) * 20000), (False,) * 20000)

    def test_no_rows(self):
        things = [*no_integers(), *no_tuples(), [0], (256,), (-1,), (0, -1), (3, 10 ** 19), b"\x00", (True,), (6, True, 0),
                  (3, False), (0, None), ((0,),), (0, "a"), (0,) * 5000 + (True,), (0, [])]
        things.extend([(3, thing) for thing in no_integers()])
        for thing in things:
            if not lasting.is_row(thing):
                self.assertIs(raised(parcel_of, thing).__class__, NoRow)
                self.assertIs(raised(mark, thing).__class__, NoRow)
            self.assertEqual(unsealed(thing), ())
        self.assertEqual([thing for thing in things if lasting.is_row(thing)], [(), (0,), (1, 2)])


class Seals(unittest.TestCase):
    def test_mark(self):
        self.assertEqual(mark(()), 1)
        self.assertEqual(mark((0,)), 1000004)
        self.assertEqual(mark((255,)), 1000259)
        self.assertEqual(mark((0, 0)), 1000003 * 1000004 + 1)
        chance = random.Random(84)
        for many in (1, 2, 3, 4, 5, 100, 5000):
            row = tuple(chance.randrange(256) for _ in range(many))
            self.assertEqual(mark(row), lasting.mark(row))
            self.assertLess(mark(row), 2 ** 61 - 1)

    def test_sealed(self):
        self.assertEqual(sealed(None), (0, 0x44, 0x42, 0x0f, 0))
        for parcel in parcels():
            row = sealed(parcel)
            self.assertEqual(row, lasting.sealed(parcel))
            self.assertEqual(row[:-4], row_of(parcel))
            self.assertEqual(lasting.strict(unsealed(row)), lasting.strict((parcel,)))

    def test_each_byte_otherwise(self):
        for parcel in (None, 300, "seal", (), (True, "a", 300), ("letter", 0, 1, 0, ((0, ("said", 0, -5)),))):
            row = sealed(parcel)
            for at in range(len(row)):
                for byte in range(256):
                    other = (*row[:at], byte, *row[at + 1:])
                    self.assertEqual(unsealed(other), (parcel,) if other == row else ())

    def test_seals_of_no_parcels_row(self):
        for row in ((), (7,), (3,), (3, 128, 0), (5, 0), (5, 1, 37), (6, 1), (0, 0), (6, 1) * 20 + (6, 0)):
            seal = tuple((lasting.mark(row) % 2 ** 32).to_bytes(4, "little"))
            self.assertEqual(unsealed(row + seal), ())
            self.assertEqual(unsealed(row + seal[::-1]), ())

    def test_other_lengths(self):
        row = sealed((1, 2))
        for many in range(len(row)):
            self.assertEqual(unsealed(row[:many]), ())
            self.assertEqual(unsealed(row[many:] if many else row[1:]), ())
        self.assertEqual(unsealed((*row, 0)), ())
        self.assertEqual(unsealed(row * 2), ())
        self.assertEqual(unsealed(()), ())
        self.assertEqual(unsealed((1, 0, 0, 0)), ())

    def test_flags_are_no_bytes(self):
        row = sealed((1, 0, True))
        self.assertEqual(unsealed(row), ((1, 0, True),))
        for at in range(len(row)):
            if row[at] in (0, 1):
                other = (*row[:at], bool(row[at]), *row[at + 1:])
                self.assertEqual(other, row)
                self.assertEqual(unsealed(other), ())
                self.assertIs(raised(mark, other).__class__, NoRow)
                self.assertIs(raised(parcel_of, other[:-4] + (True,)).__class__, NoRow)
        self.assertEqual(unsealed(list(row)), ())
        self.assertEqual(unsealed(bytes(row)), ())


if __name__ == "__main__":
    unittest.main()
