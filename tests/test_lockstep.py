"""Expressions at work, and lockstep [2.1], [2.2], [2.3]."""

import random
import unittest

from sameround.errors import NoCells, NoHouse, NoNumber, NoSayings
from sameround.lockstep import lockstep, many_said, next_cells, sayings, start_cells
from sameround.programs import Program
from sameround.webs import Web, neighbours

from tests import model
from tests.helpers import (
    full, grown, no_integers, no_tuples, programs, quiet_program, raised, ring, row, small_program,
    star)
from tests.test_programs import BARRED, grown as grown_expression

LOW, HIGH = -2 ** 31, 2 ** 31 - 1
ONE = ("number", 1)
# Numbers at the edges, and about 0.
EDGES = (LOW, LOW + 1, -7, -2, -1, 0, 1, 2, 3, 7, 65536, HIGH - 1, HIGH)


def webs_of_all_sizes():
    return [Web(1, ()), row(2), row(3), full(3), star(5), ring(6), grown(12, 9, 3), star(40), row(40)]


def next_of(expression, cells=(0,), numbers=(), web=None, house=0, at=0):
    """What an expression of nexts comes to."""
    rows = (expression,) + (ONE,) * (len(cells) - 1)
    program = Program((ONE,) * len(cells), ONE, ONE, rows)
    return next_cells(web or row(3), program, house, at, cells, numbers)[0]


class Words(unittest.TestCase):
    def check(self, word, *rows):
        for a, b, due in rows:
            with self.subTest(word=word, a=a, b=b):
                expression = (word, ("number", a), ("number", b))
                self.assertEqual(next_of(expression), due)
                self.assertIs(next_of(expression).__class__, int)
                self.assertEqual(next_of((word, ("cell", 0), ("cell", 1)), (a, b)), due)

    def test_numbers_and_cells(self):
        for n in EDGES:
            self.assertEqual(next_of(("number", n)), n)
            self.assertEqual(next_of(("cell", 0), (n, 5)), n)
            self.assertEqual(next_of(("cell", 3), (1, 2, 3, n)), n)

    def test_add(self):
        self.check("add", (2, 3, 5), (HIGH, 0, HIGH), (HIGH, 1, LOW), (HIGH, HIGH, -2), (LOW, -1, HIGH),
                   (LOW, LOW, 0), (LOW, HIGH, -1), (-5, 5, 0))

    def test_sub(self):
        self.check("sub", (2, 3, -1), (LOW, 1, HIGH), (HIGH, -1, LOW), (0, LOW, LOW), (LOW, LOW, 0),
                   (HIGH, LOW, -1), (LOW, HIGH, 1), (-1, LOW, HIGH))

    def test_mul(self):
        self.check("mul", (2, -3, -6), (65536, 65536, 0), (65536, 32768, LOW), (LOW, -1, LOW),
                   (LOW, LOW, 0), (HIGH, HIGH, 1), (HIGH, LOW, LOW), (HIGH, 2, -2), (LOW, 3, LOW),
                   (100003, 100003, 10000600009 - 2 * 2 ** 32), (0, LOW, 0))

    def test_min_and_max(self):
        for a in EDGES:
            for b in EDGES:
                self.check("min", (a, b, a if a < b else b))
                self.check("max", (a, b, b if a < b else a))

    def test_less_and_same(self):
        for a in EDGES:
            for b in EDGES:
                self.check("less", (a, b, 1 if b - a > 0 else 0))
                self.check("same", (a, b, 1 if b - a == 0 else 0))

    def test_and_and_or(self):
        for a in EDGES:
            for b in EDGES:
                self.check("and", (a, b, 0 if a * b == 0 else 1))
                self.check("or", (a, b, 0 if a * a + b * b == 0 else 1))

    def test_rest(self):
        self.check("rest", (7, 3, 1), (-7, 3, 2), (-1, HIGH, HIGH - 1), (LOW, HIGH, HIGH - 1),
                   (LOW, 2, 0), (6, 3, 0), (2, 3, 2), (0, 5, 0), (HIGH, 1, 0), (7, 0, 0), (-7, 0, 0),
                   (0, 0, 0), (7, -3, 0), (-7, -3, 0), (7, LOW, 0), (LOW, LOW, 0), (HIGH, HIGH, 0))

    def test_if(self):
        for a in EDGES:
            expression = ("if", ("number", a), ("number", 5), ("number", 6))
            self.assertEqual(next_of(expression), 6 if a == 0 else 5)

    def test_what_comes_out_is_brought_back_at_each_step(self):
        # 2 ** 31 is brought back before it is compared, halved, or made a condition.
        over = ("add", ("number", HIGH), ONE)
        self.assertEqual(next_of(("less", over, ("number", 0))), 1)
        self.assertEqual(next_of(("max", over, ("number", 0))), 0)
        self.assertEqual(next_of(("rest", over, ("number", 10))), (LOW) % 10)
        self.assertEqual(next_of(("rest", ("number", 10), over)), 0)
        none = ("mul", ("number", 65536), ("number", 65536))
        self.assertEqual(next_of(("if", none, ONE, ("number", 2))), 2)
        self.assertEqual(next_of(("or", none, none)), 0)
        self.assertEqual(next_of(("same", none, ("number", 0))), 1)

    def test_what_is_heard(self):
        for numbers in ((), (5,), (-5,), (5, -5, 3), (7, 7), (LOW, HIGH), (HIGH, 1), (HIGH,) * 39, (LOW,) * 39):
            for word in ("heard", "sum", "least", "most"):
                due = model.worth((word,), {"numbers": numbers})
                self.assertEqual(next_of((word,), numbers=numbers), due)
        self.assertEqual(next_of(("heard",), numbers=(4, 4, 4)), 3)
        self.assertEqual(next_of(("sum",), numbers=(HIGH, 1)), LOW)
        self.assertEqual(next_of(("sum",), numbers=(HIGH,) * 39), 2 ** 31 - 39)
        self.assertEqual(next_of(("least",), numbers=(4, 9)), 4)
        self.assertEqual(next_of(("most",), numbers=(-4, -9)), -4)
        for word in ("heard", "sum", "least", "most"):
            self.assertEqual(next_of((word,)), 0)

    def test_what_a_house_is(self):
        web = star(5)
        for house, ties in ((0, 4), (1, 1), (4, 1)):
            self.assertEqual(next_of(("me",), web=web, house=house), house)
            self.assertEqual(next_of(("many",), web=web, house=house), 5)
            self.assertEqual(next_of(("ties",), web=web, house=house), ties)
        for at in (0, 1, 999, 1000):
            self.assertEqual(next_of(("round",), at=at), at)
        program = Program((("me",), ("many",), ("ties",), ("mul", ("many",), ("number", HIGH))),
                          ONE, ONE, (ONE,) * 4)
        self.assertEqual(start_cells(web, program, 0), (0, 5, 4, model.small(5 * HIGH)))
        self.assertEqual(start_cells(web, program, 3), (3, 5, 1, model.small(5 * HIGH)))

    def test_any_expressions(self):
        chance = random.Random(11)
        for _ in range(3000):
            expression = grown_expression(chance, BARRED["nexts"], 5)
            if str(expression).count("(") <= 60:
                cells = tuple(chance.choice(EDGES) for _ in range(4))
                numbers = tuple(chance.choice(EDGES) for _ in range(chance.randrange(6)))
                seen = {"me": 2, "many": 7, "ties": 2, "round": 9, "cells": cells, "numbers": numbers}
                self.assertEqual(next_of(expression, cells, numbers, ring(7), 2, 9),
                                 model.worth(expression, seen))


class Starts(unittest.TestCase):
    def test_start_cells(self):
        for web in webs_of_all_sizes():
            for program in programs():
                for house in range(web.many):
                    self.assertEqual(start_cells(web, program, house), model.starts(web, program, house))

    def test_wrong_houses(self):
        for house in (3, -1, 40, 10 ** 20 - 1, *no_integers()):
            self.assertIs(raised(start_cells, row(3), small_program(), house).__class__, NoHouse)


class Sayings(unittest.TestCase):
    def test_example(self):
        self.assertEqual(sayings(row(3), small_program(), 1, 0, (5,)), ((0, 5), (2, 5)))

    def test_to_and_say_see_the_neighbour(self):
        program = Program((ONE,), ("sub", ("other",), ("number", 2)), ("mul", ("other",), ("cell", 0)), (ONE,))
        self.assertEqual(sayings(star(5), program, 0, 0, (3,)), ((1, 3), (3, 9), (4, 12)))
        self.assertEqual(sayings(full(4), program, 2, 0, (HIGH,)), ((0, 0), (1, HIGH), (3, HIGH * 3 - 2 ** 32)))

    def test_negatives_are_said_too(self):
        program = Program((ONE,), ("number", LOW), ("round",), (ONE,))
        self.assertEqual(sayings(row(3), program, 1, 7, (0,)), ((0, 7), (2, 7)))

    def test_all_that_is_said(self):
        for web in webs_of_all_sizes():
            for program in programs():
                cells = (65537,) * len(program.starts)
                for house in range(web.many):
                    for at in (0, 1, 2, 999, 1000):
                        due = model.says(web, program, house, at, cells)
                        told = sayings(web, program, house, at, cells)
                        self.assertEqual(told, tuple(sorted(due.items())))
                        self.assertIs(told.__class__, tuple)

    def test_wrong_houses(self):
        for house in (3, -1, *no_integers()):
            self.assertIs(raised(sayings, row(3), small_program(), house, 0, (1,)).__class__, NoHouse)
            self.assertIs(raised(sayings, row(3), small_program(), house, -1, None).__class__, NoHouse)

    def test_wrong_rounds(self):
        for at in (-1, 1001, 10 ** 20 - 1, *no_integers()):
            self.assertIs(raised(sayings, row(3), small_program(), 0, at, (1,)).__class__, NoNumber)
            self.assertIs(raised(sayings, row(3), small_program(), 0, at, None).__class__, NoNumber)

    def test_wrong_cells(self):
        for cells in wrong_cells():
            self.assertIs(raised(sayings, row(3), quiet_program(), 0, 1000, cells).__class__, NoCells)
        self.assertEqual(sayings(row(3), silent_program_of_two(), 0, 1000, (LOW, HIGH)), ())


def silent_program_of_two():
    return Program((ONE, ONE), ("number", 0), ONE, (ONE, ONE))


def wrong_cells():
    """What is no tuple of two small numbers."""
    things = [[1, 2], (), (1,), (1, 2, 3), (1, True), (False, 1), (1, HIGH + 1), (LOW - 1, 1), (1, None),
              ((1, 2),), ((1, 2), 1), (1,) * 5000, "ab", {0: 1, 1: 2}, *no_tuples()]
    return things + [(1, thing) for thing in no_integers()]


class Nexts(unittest.TestCase):
    def test_example(self):
        self.assertEqual(next_cells(row(3), small_program(), 1, 0, (5,), (7, 3)), (3,))

    def test_all_by_the_cells_ahead(self):
        program = Program((ONE,) * 3, ONE, ONE, (("cell", 1), ("cell", 2), ("cell", 0)))
        self.assertEqual(next_cells(row(2), program, 0, 0, (7, 8, 9), ()), (8, 9, 7))

    def test_more_numbers_than_neighbours(self):
        program = Program((ONE,), ONE, ONE, (("heard",),))
        for many in range(40):
            self.assertEqual(next_cells(Web(1, ()), program, 0, 0, (1,), (1,) * many), (many,))

    def test_wrong_arguments_in_order(self):
        for house in (3, -1, *no_integers()):
            wrong = raised(next_cells, row(3), small_program(), house, None, None, None)
            self.assertIs(wrong.__class__, NoHouse)
        for at in (-1, 1001, *no_integers()):
            self.assertIs(raised(next_cells, row(3), small_program(), 2, at, None, None).__class__, NoNumber)
            self.assertIs(raised(next_cells, row(3), small_program(), 2, at, (1,), ()).__class__, NoNumber)
        for cells in wrong_cells():
            self.assertIs(raised(next_cells, row(3), quiet_program(), 2, 1000, cells, None).__class__, NoCells)
            self.assertIs(raised(next_cells, row(3), quiet_program(), 2, 0, cells, ()).__class__, NoCells)

    def test_wrong_numbers(self):
        things = [[], [1], (True,), (1, False), (HIGH + 1,), (LOW - 1,), (1,) * 40, (1,) * 5000, ((1,),),
                  "", "a", {}, *no_tuples(), *[(1, thing) for thing in no_integers()]]
        for numbers in things:
            wrong = raised(next_cells, row(3), small_program(), 2, 1000, (1,), numbers)
            self.assertIs(wrong.__class__, NoSayings)
        self.assertEqual(next_cells(row(3), small_program(), 2, 1000, (1,), (HIGH,) * 39), (1,))


class Lockstep(unittest.TestCase):
    def test_example(self):
        self.assertEqual(lockstep(row(3), small_program(), 2),
                         [((0,), (1,), (2,)), ((0,), (0,), (1,)), ((0,), (0,), (0,))])
        self.assertEqual(many_said(row(3), small_program(), 2), 8)

    def check(self, web, program, many):
        rows, told = model.rounds(web, program, many)
        cells = lockstep(web, program, many)
        self.assertEqual(cells, [tuple(row) for row in rows])
        self.assertIs(cells.__class__, list)
        self.assertEqual(many_said(web, program, many), sum(len(pairs) for said in told for pairs in said))

    def test_against_a_second_account(self):
        for web in webs_of_all_sizes():
            for program in programs():
                for many in (0, 1, 2, 7):
                    self.check(web, program, many)

    def test_forty_rounds(self):
        for web in (Web(1, ()), row(2), full(3), ring(5), star(40)):
            for program in programs():
                self.check(web, program, 40)
        self.check(full(40), quiet_program(), 3)
        self.check(full(40), small_program(), 40)
        self.assertEqual(len(lockstep(Web(1, ()), small_program(), 40)), 41)
        self.assertEqual(many_said(row(3), small_program(), 40), 160)

    def test_any_programs(self):
        chance = random.Random(3)
        for seed in range(60):
            starts = tuple(grown_expression(chance, BARRED["starts"], 3) for _ in range(chance.randint(1, 4)))
            parts = [grown_expression(chance, BARRED["to"], 3) for _ in range(2)]
            rows = tuple(grown_expression(chance, BARRED["nexts"], 3) for _ in starts)
            self.check(grown(chance.randint(2, 9), 4, seed) if seed % 9 else Web(1, ()),
                       Program(starts, *parts, rows), 5)

    def test_what_next_cells_and_sayings_tell(self):
        web, program = grown(8, 5, 1), quiet_program()
        cells = lockstep(web, program, 6)
        for at in range(6):
            said = [dict(sayings(web, program, house, at, cells[at][house])) for house in range(8)]
            for house in range(8):
                numbers = tuple(said[other][house] for other in neighbours(web, house) if house in said[other])
                self.assertEqual(next_cells(web, program, house, at, cells[at][house], numbers),
                                 cells[at + 1][house])

    def test_a_list_that_is_new(self):
        cells = lockstep(row(3), small_program(), 2)
        cells.clear()
        self.assertEqual(len(lockstep(row(3), small_program(), 2)), 3)

    def test_nothing_said(self):
        self.assertEqual(many_said(Web(1, ()), small_program(), 40), 0)
        self.assertEqual(many_said(row(3), small_program(), 0), 0)
        self.assertEqual(lockstep(Web(1, ()), small_program(), 1), [((0,),), ((0,),)])

    def test_wrong_rounds(self):
        for rounds in (-1, 41, 1000, 10 ** 20 - 1, *no_integers()):
            self.assertIs(raised(lockstep, row(3), small_program(), rounds).__class__, NoNumber)
            self.assertIs(raised(many_said, row(3), small_program(), rounds).__class__, NoNumber)


if __name__ == "__main__":
    unittest.main()
