"""Known programs [2.4]."""

import unittest

from sameround.errors import NoNumber
from sameround.known import least_program, tree_program, walk_program
from sameround.lockstep import lockstep, next_cells, sayings, start_cells
from sameround.programs import Program
from sameround.webs import Web, neighbours, width

from tests.helpers import counted, full, grown, no_integers, raised, ring, row, star
from tests.model import small


def some_webs():
    return [Web(1, ()), row(2), row(3), full(4), star(6), ring(7), row(12), grown(15, 10, 2),
            grown(40, 5, 1), full(9)]


class Tree(unittest.TestCase):
    def test_distances_and_nearer_neighbours(self):
        for web in some_webs():
            away = counted(web)
            for house in {0, web.many // 2, web.many - 1}:
                due = tuple(
                    (away[house, k],
                     min([n for n in neighbours(web, k) if away[house, n] < away[house, k]], default=-1))
                    for k in range(web.many))
                program = tree_program(house)
                for rounds in (width(web), min(40, width(web) + 1), 40):
                    self.assertEqual(lockstep(web, program, rounds)[-1], due)

    def test_not_yet_known(self):
        self.assertEqual(lockstep(row(4), tree_program(0), 2), [
            ((0, -1), (-1, -1), (-1, -1), (-1, -1)),
            ((0, -1), (1, 0), (-1, -1), (-1, -1)),
            ((0, -1), (1, 0), (2, 1), (-1, -1))])

    def test_step_by_step(self):
        program = tree_program(2)
        self.assertEqual([start_cells(row(4), program, k) for k in range(4)],
                         [(-1, -1), (-1, -1), (0, -1), (-1, -1)])
        self.assertEqual(sayings(row(4), program, 1, 5, (0, -1)), ((0, 1), (2, 1)))
        self.assertEqual(sayings(row(4), program, 1, 5, (7, 3)), ((0, 1), (2, 1)))
        self.assertEqual(sayings(row(4), program, 1, 5, (-1, 3)), ())
        self.assertEqual(sayings(row(4), program, 1, 5, (-2 ** 31, 3)), ())
        self.assertEqual(next_cells(row(4), program, 1, 5, (-1, -1), (2, 0)), (6, 0))
        self.assertEqual(next_cells(row(4), program, 1, 5, (-9, 4), (-3,)), (6, -3))
        self.assertEqual(next_cells(row(4), program, 1, 5, (-1, 4), ()), (-1, 4))
        self.assertEqual(next_cells(row(4), program, 1, 5, (-1, -1), (0,)), (6, 0))
        self.assertEqual(next_cells(row(4), program, 1, 5, (0, 4), (2, 0)), (0, 4))
        self.assertEqual(next_cells(row(4), program, 1, 5, (3, 4), (2, 0)), (3, 4))

    def test_a_house_that_is_not_there(self):
        self.assertEqual(lockstep(row(2), tree_program(39), 2)[-1], ((-1, -1), (-1, -1)))


class Least(unittest.TestCase):
    def test_all_come_to_know_0(self):
        for web in some_webs():
            away = counted(web)
            for rounds in range(width(web) + 1):
                due = tuple((min(n for n in range(web.many) if away[k, n] <= rounds),) for k in range(web.many))
                self.assertEqual(lockstep(web, least_program(), rounds)[-1], due)
            self.assertEqual(lockstep(web, least_program(), 40)[-1], ((0,),) * web.many)

    def test_step_by_step(self):
        program = least_program()
        self.assertEqual(start_cells(row(4), program, 3), (3,))
        self.assertEqual(sayings(row(4), program, 1, 5, (0,)), ((0, 0), (2, 0)))
        self.assertEqual(next_cells(row(4), program, 1, 5, (6,), ()), (6,))
        self.assertEqual(next_cells(row(4), program, 1, 5, (-6,), ()), (-6,))
        self.assertEqual(next_cells(row(4), program, 1, 5, (6,), (9, 8)), (6,))
        self.assertEqual(next_cells(row(4), program, 1, 5, (6,), (9, 2)), (2,))


class Walks(unittest.TestCase):
    def test_counted(self):
        for web in some_webs():
            for house in {0, web.many // 2, web.many - 1}:
                walks = [int(k == house) for k in range(web.many)]
                told = lockstep(web, walk_program(house), 40)
                for rounds in range(41):
                    self.assertEqual(told[rounds], tuple((small(n),) for n in walks))
                    walks = [sum(walks[n] for n in neighbours(web, k)) for k in range(web.many)]

    def test_step_by_step(self):
        self.assertEqual(sayings(row(4), walk_program(0), 1, 5, (0,)), ((0, 0), (2, 0)))
        self.assertEqual(next_cells(row(4), walk_program(0), 1, 5, (9,), ()), (0,))
        self.assertEqual(next_cells(row(4), walk_program(0), 1, 5, (9,), (2 ** 31 - 1, 1)), (-2 ** 31,))


class Numbers(unittest.TestCase):
    def test_houses(self):
        for house in range(40):
            for made in (tree_program(house), walk_program(house)):
                self.assertIs(made.__class__, Program)
            self.assertTrue(tree_program(house) == tree_program(house))
            self.assertEqual(start_cells(full(40), walk_program(house), house), (1,))
            self.assertEqual(start_cells(full(40), walk_program(house), (house + 1) % 40), (0,))
        self.assertIs(least_program().__class__, Program)
        self.assertTrue(least_program() == least_program())
        self.assertFalse(tree_program(1) == tree_program(2))

    def test_how_many_cells(self):
        self.assertEqual([len(made.starts) for made in (tree_program(0), least_program(), walk_program(0))],
                         [2, 1, 1])

    def test_wrong_houses(self):
        for house in (-1, 40, 41, 10 ** 20 - 1, *no_integers()):
            self.assertIs(raised(tree_program, house).__class__, NoNumber)
            self.assertIs(raised(walk_program, house).__class__, NoNumber)


if __name__ == "__main__":
    unittest.main()
