"""Webs [1.1]."""

import unittest

from sameround.errors import BadWeb, NoHouse
from sameround.webs import Web, far, neighbours, width

from tests.helpers import (
    counted, full, grown, no_integers, no_tuples, raised, ring, row, small_program, star, webs)


class Right(unittest.TestCase):
    def test_example(self):
        web = Web(3, ((0, 1), (1, 2)))
        self.assertEqual(neighbours(web, 1), (0, 2))
        self.assertEqual(far(web, 0, 2), 2)
        self.assertEqual(width(web), 2)

    def test_attributes(self):
        for web in webs():
            again = Web(web.many, web.ties)
            self.assertEqual((again.many, again.ties), (web.many, web.ties))
        self.assertEqual(Web(1, ()).ties, ())
        self.assertEqual(Web(2, ((0, 1),)).many, 2)

    def test_neighbours_are_lots(self):
        for web in webs():
            for house in range(web.many):
                tied = {a + b - house for a, b in web.ties if house in (a, b)}
                self.assertEqual(neighbours(web, house), tuple(sorted(tied)))

    def test_far_and_width(self):
        for web in webs():
            away = counted(web)
            told = {(a, b): far(web, a, b) for a in range(web.many) for b in range(web.many)}
            self.assertEqual(told, away)
            self.assertEqual(width(web), max(away.values()))

    def test_known_widths(self):
        self.assertEqual(width(Web(1, ())), 0)
        self.assertEqual(width(full(40)), 1)
        self.assertEqual(width(row(40)), 39)
        self.assertEqual(width(star(40)), 2)
        self.assertEqual([width(ring(many)) for many in (3, 4, 5, 40)], [1, 2, 2, 20])
        self.assertEqual(far(row(40), 39, 0), 39)
        self.assertEqual(far(ring(40), 1, 39), 2)

    def test_equality(self):
        self.assertTrue(row(3) == Web(3, ((0, 1), (1, 2))))
        self.assertFalse(row(3) != Web(3, ((0, 1), (1, 2))))
        self.assertFalse(row(3) == Web(3, ((0, 1), (0, 2))))
        self.assertTrue(row(3) != full(3))
        self.assertFalse(Web(1, ()) == Web(2, ((0, 1),)))
        for thing in [*no_integers(), *no_tuples(), (3, ((0, 1), (1, 2))), small_program()]:
            self.assertFalse(row(3) == thing)
            self.assertTrue(row(3) != thing)

    def test_nothing_else_is_equal(self):
        class Like:
            def __init__(self):
                self.many, self.ties = 3, ((0, 1), (1, 2))

            def __eq__(self, other):
                return True

        self.assertFalse(row(3) == Like())


class Wrong(unittest.TestCase):
    def check(self, part, many, ties):
        wrong = raised(Web, many, ties)
        self.assertIs(wrong.__class__, BadWeb)
        self.assertIs(wrong.part.__class__, part.__class__)
        self.assertEqual(wrong.part, part)

    def test_many(self):
        for many in (0, -1, 41, 42, 10 ** 20 - 1, 1 - 10 ** 20, *no_integers()):
            self.check("many", many, ())

    def test_ties_are_no_tuple(self):
        for ties in no_tuples():
            self.check(-1, 2, ties)
        self.check(-1, 2, [(0, 1)])
        self.check(-1, 1, [])

    def test_ties_that_are_none(self):
        for tie in no_tuples():
            self.check(0, 2, (tie,))
            self.check(1, 2, ((0, 1), tie))
        for tie in ((), (0,), (0, 1, 2), (1, 0), (1, 1), (0, 0), (0, 3), (-1, 0), (-1, 1),
                    (2, 3), (0, True), (False, 1), (False, 2), [0, 1], ((0, 1),), ((0, 1), 2)):
            self.check(0, 3, (tie,))
            self.check(0, 3, (tie, (0, 1), (1, 2)))
            self.check(1, 3, ((0, 1), tie, (1, 2)))
            self.check(2, 3, ((0, 1), (1, 2), tie))

    def test_houses_of_ties_of_all_kinds(self):
        for thing in no_integers():
            self.check(0, 40, ((thing, 1),))
            self.check(0, 40, ((0, thing),))
            self.check(1, 40, ((0, 1), (thing, 2)))
            self.check(0, 40, ((thing, thing),))

    def test_ties_that_do_not_rise(self):
        self.check(1, 3, ((0, 1), (0, 1)))
        self.check(1, 3, ((1, 2), (0, 1)))
        self.check(1, 3, ((0, 2), (0, 1)))
        self.check(2, 4, ((0, 1), (2, 3), (1, 2)))
        self.check(2, 4, ((0, 1), (1, 2), (1, 2), (2, 3)))
        self.check(780, 40, full(40).ties + ((0, 1),))
        self.check(1, 2, ((0, 1),) * 5000)

    def test_joined(self):
        self.check("joined", 2, ())
        self.check("joined", 40, ())
        self.check("joined", 3, ((0, 1),))
        self.check("joined", 3, ((1, 2),))
        self.check("joined", 4, ((0, 1), (2, 3)))
        self.check("joined", 6, ((0, 1), (0, 2), (1, 2), (3, 4), (3, 5), (4, 5)))
        self.check("joined", 40, row(39).ties)
        self.check("joined", 40, row(40).ties[:19] + row(40).ties[20:])

    def test_the_last_tie_joins(self):
        for web in (row(40), star(40), grown(40, 0, 4)):
            for at in (0, 7, 38):
                self.check("joined", 40, web.ties[:at] + web.ties[at + 1:])

    def test_two_faults_at_once(self):
        self.check("many", 0, None)
        self.check("many", True, ((0, 0),))
        self.check("many", 41, [])
        self.check(-1, 3, [(0, 0)])
        self.check(0, 3, ((2, 1), (2, 1)))
        self.check(0, 3, (None, (0, 1), (0, 1)))
        self.check(1, 3, ((1, 2), (0, 1), None))
        self.check(1, 4, ((0, 1), (0, 1)))
        self.check(2, 4, ((0, 1), (0, 2), None))


class NoSuchHouse(unittest.TestCase):
    def check(self, call, *arguments):
        self.assertIs(raised(call, *arguments).__class__, NoHouse)

    def test_one_argument_is_no_house(self):
        for web in (Web(1, ()), row(3), ring(40)):
            for house in (-1, web.many, web.many + 1, 10 ** 20 - 1, 1 - 10 ** 20, *no_integers()):
                self.check(neighbours, web, house)
                self.check(far, web, house, 0)
                self.check(far, web, 0, house)
                self.check(far, web, house, house)

    def test_flags_and_strings(self):
        for house in (True, False, "0", "1", (1,), [1]):
            self.check(neighbours, row(3), house)
            self.check(far, row(3), house, 2)
            self.check(far, row(3), 2, house)

    def test_the_last_house_is_one(self):
        self.assertEqual(neighbours(row(40), 39), (38,))
        self.assertEqual(neighbours(Web(1, ()), 0), ())
        self.assertEqual(far(Web(1, ()), 0, 0), 0)


if __name__ == "__main__":
    unittest.main()
