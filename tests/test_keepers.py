"""Keepers and courses [3.1], [3.2], [3.3]."""

import random
import unittest

from sameround.errors import BadKeeper, NoHouse, NoNumber, TooMany
from sameround.keepers import (
    Course, Keeper, alpha, beta, clusters, depth, gamma, is_keeper, leader_of, words_a_round)
from sameround.known import tree_program
from sameround.webs import Web, neighbours

from tests import model
from tests.helpers import (
    counted, full, grown, no_integers, no_tuples, raised, ring, row, small_program, star, webs)


def trees():
    """Webs with few ties, on which balls go far."""
    binary = Web(31, tuple(((k - 1) // 2, k) for k in range(1, 31)))
    comb = Web(20, tuple(sorted([(k, k + 1) for k in range(9)] + [(k, k + 10) for k in range(10)])))
    return [binary, comb, row(8), row(40), star(8), star(40), ring(9), ring(40)]


def cluster_pairs(web, leaders):
    """The ties between each two clusters, by the pairs of their leaders."""
    between = {}
    for a, b in web.ties:
        if leaders[a] != leaders[b]:
            between.setdefault(frozenset((leaders[a], leaders[b])), []).append((a, b))
    return between


def steps_among(web, houses, start):
    """How many ties it takes from the start to each of the houses, through these alone."""
    steps, at = {start: 0}, [start]
    for house in at:
        for other in neighbours(web, house):
            if other in houses and other not in steps:
                steps[other] = steps[house] + 1
                at.append(other)
    return steps


def gamma_parents(web, k):
    """The parents of gamma, counted apart."""
    parents, left = [None] * web.many, set(range(web.many))
    while left:
        steps = steps_among(web, left, min(left))
        sizes = [sum(s <= r for s in steps.values()) for r in range(web.many + 2)]
        reach = next(r for r in range(web.many + 1) if sizes[r + 1] < k * sizes[r])
        ball = {house for house in steps if steps[house] <= reach}
        for house in ball - {min(left)}:
            parents[house] = min(n for n in neighbours(web, house) if n in ball and steps[n] < steps[house])
        left -= ball
    return tuple(parents)


def any_parents(web, seed):
    """Some parents by which each house comes to a leader."""
    chance = random.Random(seed)
    order = list(range(web.many))
    chance.shuffle(order)
    parents = [None] * web.many
    for at, house in enumerate(order):
        ahead = [n for n in neighbours(web, house) if n in order[:at]]
        parents[house] = chance.choice([None, *ahead, *ahead])
    return tuple(parents)


def leaders_of(parents):
    def up(house):
        return house if parents[house] is None else up(parents[house])
    return [up(house) for house in range(len(parents))]


def any_chosen(web, parents, seed):
    chance = random.Random(seed)
    return tuple(sorted(chance.choice(ties) for ties in cluster_pairs(web, leaders_of(parents)).values()))


class Checks(unittest.TestCase):
    def right(self, web, parents, chosen):
        keeper = Keeper(web, parents, chosen)
        self.assertTrue(keeper.web == web)
        self.assertEqual((keeper.parents, keeper.chosen), (parents, chosen))
        return keeper

    def wrong(self, part, web, parents, chosen):
        error = raised(Keeper, web, parents, chosen)
        self.assertIs(error.__class__, BadKeeper)
        self.assertEqual(error.part, part)


class Parents(Checks):
    def test_right_ones(self):
        self.right(Web(1, ()), (None,), ())
        self.right(row(2), (None, 0), ())
        self.right(row(2), (1, None), ())
        self.right(row(4), (1, 2, 3, None), ())
        self.right(row(4), (1, None, None, 2), ((1, 2),))
        self.right(full(4), (None, 0, 1, 2), ())

    def test_rings_of_parents(self):
        for web, parents in ((row(2), (1, 0)), (full(3), (1, 2, 0)), (full(3), (2, 0, 1)),
                             (full(4), (1, 0, None, None)), (full(4), (1, 2, 1, None)),
                             (ring(40), tuple((k + 1) % 40 for k in range(40))),
                             (row(4), (None, 0, 3, 2)), (full(4), (1, 2, 3, 1))):
            self.wrong("parents", web, parents, ())

    def test_parents_that_are_no_neighbours(self):
        self.wrong("parents", row(3), (None, 0, 0), ())
        self.wrong("parents", row(3), (2, 0, None), ())
        self.wrong("parents", star(4), (None, 0, 1, 0), ())

    def test_itself(self):
        self.wrong("parents", Web(1, ()), (0,), ())
        self.wrong("parents", row(3), (None, 1, 1), ())
        self.wrong("parents", row(3), (0, 0, 1), ())

    def test_parents_that_are_no_houses(self):
        for thing in (2, 3, -1, 40, 10 ** 20 - 1, *no_integers()):
            if thing is not None:
                self.wrong("parents", row(2), (None, thing), ())
                self.wrong("parents", row(2), (thing, None), ())
        self.wrong("parents", row(3), (None, False, 1), ())
        self.wrong("parents", row(3), (None, 0, True), ())

    def test_lengths_and_kinds(self):
        for thing in ((), (None,), (None, 0), (None, 0, 1, 2), (None,) * 5000, [None, 0, 1], *no_tuples(),
                      {0: None, 1: 0, 2: 1}):
            self.wrong("parents", row(3), thing, ())

    def test_parents_ahead_of_chosen(self):
        for thing in (None, ((0, 2),), [], 5):
            self.wrong("parents", row(3), (None, 0), thing)
            self.wrong("parents", row(3), (None, 0, 0), thing)


class Chosen(Checks):
    def test_right_ones(self):
        self.right(full(3), (None, None, None), ((0, 1), (0, 2), (1, 2)))
        for tie in ((0, 2), (0, 3), (1, 2), (1, 3)):
            self.right(full(4), (None, 0, None, 2), (tie,))
        self.right(ring(4), (None, 0, None, 2), ((0, 3),))
        self.right(ring(4), (None, 0, None, 2), ((1, 2),))

    def test_a_tie_within_a_cluster(self):
        self.wrong("chosen", row(3), (None, 0, 1), ((0, 1),))
        self.wrong("chosen", row(3), (None, 0, None), ((0, 1),))
        self.wrong("chosen", row(3), (None, 0, None), ((0, 1), (1, 2)))
        self.wrong("chosen", full(4), (None, 0, None, 2), ((0, 1), (0, 2)))

    def test_two_ties_for_two_clusters(self):
        self.wrong("chosen", full(4), (None, 0, None, 2), ((0, 2), (1, 3)))
        self.wrong("chosen", ring(4), (None, 0, None, 2), ((0, 3), (1, 2)))

    def test_two_clusters_without_one(self):
        self.wrong("chosen", row(3), (None, None, None), ())
        self.wrong("chosen", row(3), (None, None, None), ((0, 1),))
        self.wrong("chosen", row(3), (None, None, None), ((1, 2),))
        self.wrong("chosen", full(4), (None, 0, None, 2), ())

    def test_not_ascending(self):
        self.wrong("chosen", row(3), (None, None, None), ((1, 2), (0, 1)))
        self.wrong("chosen", row(3), (None, None, None), ((0, 1), (0, 1), (1, 2)))
        self.wrong("chosen", row(3), (None, None, None), ((0, 1), (1, 2), (1, 2)))

    def test_ties_that_are_none(self):
        for thing in ((1, 0), (0, 2), (0, 0), (1, 3), (-1, 0), (0,), (0, 1, 2), [0, 1], (False, 1), (0, True),
                      "01", (0, None), *no_integers(), *no_tuples()):
            if thing != (0, 1) or not isinstance(thing, tuple) or True in [p is True or p is False for p in thing]:
                self.wrong("chosen", row(3), (None, None, 1), (thing,))
            self.wrong("chosen", row(3), (None, None, None), (thing, (1, 2)) if thing != (0, 1) else (thing,))
        self.wrong("chosen", row(2), (None, None), ((False, True),))

    def test_kinds(self):
        for thing in ([], [(0, 1)], {}, {(0, 1): 1}, *no_tuples()):
            self.wrong("chosen", row(2), (None, None), thing)
            self.wrong("chosen", row(2), (None, 0), thing)
        self.wrong("chosen", row(2), (None, None), ((0, 1),) * 5000)


class Equality(unittest.TestCase):
    def test_equal_if_all_are(self):
        self.assertTrue(alpha(row(3)) == alpha(row(3)))
        self.assertFalse(alpha(row(3)) != alpha(row(3)))
        self.assertFalse(alpha(row(3)) == beta(row(3)))
        self.assertFalse(Keeper(row(2), (None, 0), ()) == Keeper(row(2), (1, None), ()))
        parents = (None, 0, None, 2)
        self.assertFalse(Keeper(full(4), parents, ((0, 2),)) == Keeper(full(4), parents, ((0, 3),)))
        self.assertFalse(Keeper(ring(4), (None, 0, 1, 2), ()) == Keeper(row(4), (None, 0, 1, 2), ()))

    def test_equal_to_nothing_else(self):
        keeper = alpha(row(3))
        for thing in [*no_integers(), *no_tuples(), (row(3), keeper.parents, keeper.chosen)]:
            self.assertFalse(keeper == thing)
            self.assertTrue(keeper != thing)


class Alpha(unittest.TestCase):
    def test_alpha(self):
        for web in webs():
            keeper = alpha(web)
            self.assertEqual((keeper.parents, keeper.chosen), ((None,) * web.many, web.ties))
            self.assertTrue(keeper.web == web)


class Beta(unittest.TestCase):
    def test_beta(self):
        for web in webs():
            away = counted(web)
            due = [None] + [min(n for n in neighbours(web, k) if away[0, n] < away[0, k])
                            for k in range(1, web.many)]
            self.assertEqual((beta(web).parents, beta(web).chosen), (tuple(due), ()))
            self.assertEqual(depth(beta(web)), max(away[0, k] for k in range(web.many)))


class Gamma(unittest.TestCase):
    def test_example(self):
        keeper = gamma(row(3), 2)
        self.assertEqual((keeper.parents, keeper.chosen), ((None, 0, None), ((1, 2),)))

    def test_against_a_second_account(self):
        for web in [*webs(), *trees()]:
            for k in range(2, 9):
                keeper = gamma(web, k)
                self.assertEqual(keeper.parents, gamma_parents(web, k))
                between = cluster_pairs(web, leaders_of(keeper.parents))
                self.assertEqual(keeper.chosen, tuple(sorted(min(ties) for ties in between.values())))

    def test_the_fact_of_balls(self):
        for web in [*webs(), *trees(), *[grown(40, more, more) for more in range(0, 100, 7)]]:
            for k in range(2, 9):
                self.assertLessEqual(k ** depth(gamma(web, k)), web.many)
                self.assertLessEqual(len(gamma(web, k).chosen), (k - 1) * web.many)

    def test_by_hand(self):
        self.assertEqual(gamma(Web(1, ()), 8).parents, (None,))
        self.assertEqual(gamma(row(2), 2).parents, (None, 0))
        self.assertEqual(gamma(row(2), 3).parents, (None, None))
        self.assertEqual(gamma(star(4), 4).parents, (None, 0, 0, 0))
        self.assertEqual(gamma(star(4), 5).parents, (None, None, None, None))
        self.assertEqual(gamma(row(5), 2).parents, (None, 0, None, 2, None))
        self.assertEqual(gamma(row(5), 2).chosen, ((1, 2), (3, 4)))
        # House 1 is 1 from house 0, and the ball of 2 is twice as large as that of 1.
        self.assertEqual(gamma(Web(6, ((0, 1), (1, 2), (1, 3), (3, 4), (4, 5))), 2).parents,
                         (None, 0, 1, 1, None, 4))

    def test_nearer_is_by_houses_that_are_left(self):
        # From house 1, house 2 is two ties away by house 4, which is in the cluster of house 0.
        web = Web(11, ((0, 4), (0, 5), (1, 4), (1, 7), (2, 3), (2, 4), (2, 6), (2, 9), (2, 10), (3, 9),
                       (6, 7), (6, 9), (7, 9), (8, 9), (9, 10)))
        self.assertEqual(gamma(web, 2).parents, (None, None, 6, 9, 0, 0, 7, 1, 9, 7, 9))

    def test_wrong_numbers(self):
        for k in (1, 0, -1, 9, 10, 10 ** 20 - 1, *no_integers()):
            self.assertIs(raised(gamma, row(3), k).__class__, NoNumber)


class Measures(unittest.TestCase):
    def keepers(self):
        for at, web in enumerate([*webs(), *trees()]):
            for keeper in (alpha(web), beta(web), gamma(web, 2), gamma(web, 3)):
                yield keeper
            for seed in range(3):
                parents = any_parents(web, at + seed)
                yield Keeper(web, parents, any_chosen(web, parents, seed))

    def test_against_a_second_account(self):
        for keeper in self.keepers():
            many = keeper.web.many
            leaders = [model.leader(keeper, house) for house in range(many)]
            self.assertEqual([leader_of(keeper, house) for house in range(many)], leaders)
            due = tuple(tuple(k for k in range(many) if leaders[k] == leader) for leader in sorted(set(leaders)))
            self.assertEqual(clusters(keeper), due)
            self.assertEqual(depth(keeper), max(model.steps_up(keeper, house) for house in range(many)))
            below = many - keeper.parents.count(None)
            self.assertEqual(words_a_round(keeper),
                             4 * below + 2 * len(keeper.chosen) if keeper.chosen else 2 * below)

    def test_by_hand(self):
        self.assertEqual([words_a_round(keeper) for keeper in (alpha(row(3)), beta(row(3)), gamma(row(3), 2))],
                         [4, 4, 6])
        self.assertEqual(depth(beta(row(3))), 2)
        self.assertEqual(depth(alpha(row(3))), 0)
        self.assertEqual(words_a_round(alpha(Web(1, ()))), 0)
        # The leaders tell the order of clusters, not their least houses.
        keeper = Keeper(row(5), (1, 2, 3, None, None), ((3, 4),))
        self.assertEqual(clusters(keeper), ((0, 1, 2, 3), (4,)))
        keeper = Keeper(Web(4, ((0, 3), (1, 2), (1, 3))), (3, None, 1, None), ((1, 3),))
        self.assertEqual(clusters(keeper), ((1, 2), (0, 3)))
        self.assertEqual(leader_of(keeper, 0), 3)

    def test_wrong_houses(self):
        for house in (3, -1, 10 ** 20 - 1, *no_integers()):
            self.assertIs(raised(leader_of, beta(row(3)), house).__class__, NoHouse)


class IsKeeper(unittest.TestCase):
    def test_right(self):
        for keeper in (alpha(row(3)), beta(row(3)), gamma(row(3), 2)):
            self.assertIs(is_keeper(row(3), keeper), True)
            self.assertIs(is_keeper(ring(3), keeper), False)
            self.assertIs(is_keeper(row(4), keeper), False)

    def test_things_of_all_kinds(self):
        keeper = beta(row(3))
        for thing in [*no_integers(), *no_tuples(), (row(3), keeper.parents, keeper.chosen), [keeper],
                      Course(small_program(), keeper, 1), Keeper]:
            self.assertIs(is_keeper(row(3), thing), False)


class Courses(unittest.TestCase):
    def test_attributes(self):
        for goal in (0, 1, 40):
            course = Course(small_program(), beta(row(8)), goal)
            self.assertTrue(course.program == small_program())
            self.assertTrue(course.keeper == beta(row(8)))
            self.assertEqual(course.goal, goal)

    def test_too_many(self):
        for many in (9, 10, 40):
            for goal in (1, 41, None):
                wrong = raised(Course, small_program(), alpha(row(many)), goal)
                self.assertIs(wrong.__class__, TooMany)
                self.assertEqual(wrong.most, 8)

    def test_wrong_goals(self):
        for goal in (41, -1, 10 ** 20 - 1, *no_integers()):
            self.assertIs(raised(Course, small_program(), alpha(row(8)), goal).__class__, NoNumber)

    def test_equality(self):
        course = Course(small_program(), beta(row(3)), 2)
        self.assertTrue(course == Course(small_program(), beta(row(3)), 2))
        self.assertFalse(course != Course(small_program(), beta(row(3)), 2))
        self.assertFalse(course == Course(tree_program(0), beta(row(3)), 2))
        self.assertFalse(course == Course(small_program(), alpha(row(3)), 2))
        self.assertFalse(course == Course(small_program(), beta(row(3)), 3))
        for thing in [*no_integers(), *no_tuples(), (course.program, course.keeper, 2), course.keeper]:
            self.assertFalse(course == thing)


if __name__ == "__main__":
    unittest.main()
