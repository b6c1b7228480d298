"""Films and pictures [11.2], [11.3]."""

import random
import unittest

from sameround.errors import BadMoves, NoChoices, NoGlass, NoMoment, NoNumber
from sameround.films import Reel, drawn, drawn_rounds, moves_of
from sameround.glass import first_glass, run_out
from sameround.keepers import Course, alpha, beta, gamma
from sameround.webs import Web, neighbours

from tests import model
from tests.helpers import full, no_integers, no_tuples, quiet_program, raised, ring, row, small_program, star
from tests.test_glass import amid, some_choices, some_courses
from tests.test_posts import courses, example


def long_course():
    """A course of which runs have more than 3000 moves."""
    return Course(small_program(), beta(full(7)), 40)


class Account:
    """A second account of a reel: what is kept, where it stands, and what the last seek took."""

    def __init__(self, course, moves, every):
        self.glasses = [first_glass(course)]
        for move in moves:
            self.glasses.append(model.moved(course, self.glasses[-1], move))
        self.every, self.at, self.work, self.kept = every, 0, 0, {0}

    def seek(self, at):
        begin = max([k for k in (*self.kept, self.at) if k <= at])
        self.kept |= {k for k in range(begin + 1, at + 1) if k % self.every == 0}
        self.at, self.work = at, at - begin

    def seen(self):
        return self.at, self.glasses[self.at], tuple(sorted(self.kept)), self.work


def seen(reel):
    return reel.stands(), reel.glass_now(), reel.kept(), reel.worked()


class Moves(unittest.TestCase):
    def test_moves_of(self):
        for seed, course in enumerate(some_courses()):
            choices = some_choices()[seed % 7]
            moves = moves_of(course, choices)
            self.assertIs(moves.__class__, tuple)
            self.assertEqual(list(moves), model.run(course, choices)[0])
            self.assertEqual(len([move for move in moves if move[0] == "take"]), run_out(course, choices)[1])

    def test_wrong_choices(self):
        for thing in no_tuples():
            if not isinstance(thing, list):
                wrong = raised(moves_of, example(), thing)
                self.assertIs(wrong.__class__, NoChoices)
                self.assertEqual(wrong.index, -1)
        for thing in (-1, *no_integers()):
            for choices, index in (([thing], 0), ((1, 2, thing), 2), ([1, thing, thing], 1), ([0] * 5000 + [thing], 5000)):
                wrong = raised(moves_of, example(), choices)
                self.assertIs(wrong.__class__, NoChoices)
                self.assertEqual(wrong.index, index)

    def test_more_than_a_reel_takes(self):
        course = long_course()
        moves = moves_of(course, (5, 3, 8))
        self.assertGreater(len(moves), 3001)
        self.assertEqual(raised(Reel, course, moves, 5).index, -1)
        self.assertEqual(raised(Reel, course, moves[:3001], 5).index, -1)
        self.assertEqual(raised(drawn_rounds, course, moves[:3001]).index, -1)
        reel = Reel(course, moves[:3000], 500)
        reel.seek(3000)
        self.assertEqual((reel.kept(), reel.worked()), ((0, 500, 1000, 1500, 2000, 2500, 3000), 3000))
        self.assertEqual(len(drawn_rounds(course, moves[:3000])), 7 * 3002)


class Makes(unittest.TestCase):
    def test_a_new_reel(self):
        for every in (1, 7, 500):
            for moves in ((), (("start", 2),), moves_of(example(), (3, 1))):
                reel = Reel(example(), moves, every)
                self.assertEqual(seen(reel), (0, first_glass(example()), (0,), 0))

    def check_moves(self, moves, index):
        for wrong in (raised(Reel, example(), moves, 5), raised(Reel, example(), moves, 0), raised(drawn_rounds, example(), moves)):
            self.assertIs(wrong.__class__, BadMoves)
            self.assertEqual(wrong.index, index)

    def test_bad_moves(self):
        for thing in no_tuples():
            self.check_moves(thing, -1)
        good = moves_of(example(), (3, 1, 4, 1, 5))
        self.check_moves(list(good), -1)
        self.check_moves((None,) * 3001, -1)
        self.check_moves((None,) * 3000, 0)
        done, glasses = model.run(example(), (3, 1, 4, 1, 5))
        every = [("start", house) for house in range(-1, 4)] + [("take", a, b) for a in range(-1, 4) for b in range(-1, 4)]
        for at in range(len(good) + 1):
            bad = [move for move in every if move not in model.moves(glasses[at])]
            for move in bad[at % 3::3] + [None, (), ("start",), ["start", 0], ("start", 0, 0), 5, ("take", 0), ("wait", 0)]:
                self.check_moves((*good[:at], move, *good[at:]), at)
        for thing in [*no_integers(), *no_tuples()]:
            self.check_moves((("start", 1), thing), 1)
            self.check_moves((("start", 1), (thing, 0), None), 1)
            if not (thing.__class__ is int and 0 <= thing < 3):
                self.check_moves((("start", thing),), 0)
        self.check_moves((("start", True),), 0)
        self.check_moves((("start", False),), 0)
        self.check_moves((("start", 0), ("take", 0, True)), 1)
        self.check_moves((("start", 0), ("take", False, 1)), 1)

    def test_no_every(self):
        for every in (0, 501, -1, 10 ** 20 - 1, *no_integers()):
            self.assertIs(raised(Reel, example(), (), every).__class__, NoNumber)
        self.assertIs(raised(Reel, example(), (("start", 1),), True).__class__, NoNumber)
        self.assertIsNone(raised(Reel, example(), (), 1))
        self.assertIsNone(raised(Reel, example(), (), 500))


class Seeks(unittest.TestCase):
    def test_against_a_second_account(self):
        for seed, course in enumerate(some_courses()):
            chance = random.Random(seed)
            moves = moves_of(course, some_choices()[5])[:chance.choice([0, 1, 20, 90, 3000])]
            every = chance.choice([1, 2, 3, 7, 10, 50, 500])
            reel, account = Reel(course, moves, every), Account(course, moves, every)
            for _ in range(25):
                at = chance.choice([0, len(moves), reel.stands(), chance.randint(0, len(moves)),
                                    min(len(moves), reel.stands() + chance.randint(0, 9)),
                                    max(0, reel.stands() - chance.randint(0, 9))])
                came_to = max(account.kept | {account.at})
                self.assertIsNone(reel.seek(at))
                account.seek(at)
                self.assertEqual(seen(reel), account.seen())
                if at <= came_to:
                    self.assertLess(reel.worked(), every)

    def test_by_hand(self):
        moves = moves_of(example(), ())
        self.assertEqual(len(moves), 27)
        reel = Reel(example(), moves, 5)
        for at, kept, worked in ((12, (0, 5, 10), 12), (12, (0, 5, 10), 0), (11, (0, 5, 10), 1), (14, (0, 5, 10), 3), (10, (0, 5, 10), 0),
                                 (15, (0, 5, 10, 15), 5), (4, (0, 5, 10, 15), 4), (9, (0, 5, 10, 15), 4), (16, (0, 5, 10, 15), 1),
                                 (0, (0, 5, 10, 15), 0), (27, (0, 5, 10, 15, 20, 25), 12), (26, (0, 5, 10, 15, 20, 25), 1)):
            reel.seek(at)
            self.assertEqual((reel.stands(), reel.kept(), reel.worked()), (at, kept, worked))
            self.assertEqual(reel.glass_now(), amid(example(), (), at))

    def test_what_is_nearer(self):
        """From where it stands, if this is nearer than what is kept, and not beyond the goal."""
        moves = moves_of(example(), ())
        reel = Reel(example(), moves, 10)
        reel.seek(18)
        reel.seek(19)
        self.assertEqual(reel.worked(), 1)
        reel.seek(17)
        self.assertEqual(reel.worked(), 7)
        reel.seek(9)
        self.assertEqual(reel.worked(), 9)
        reel.seek(12)
        self.assertEqual(reel.worked(), 2)

    def test_no_moments(self):
        moves = moves_of(example(), ())
        reel = Reel(example(), moves, 4)
        reel.seek(9)
        ahead = seen(reel)
        for at in (28, -1, 10 ** 20 - 1, *no_integers()):
            self.assertIs(raised(reel.seek, at).__class__, NoMoment)
        self.assertEqual(seen(reel), ahead)
        self.assertIs(raised(Reel(example(), (), 1).seek, 1).__class__, NoMoment)
        self.assertIs(raised(Reel(example(), (), 1).seek, False).__class__, NoMoment)

    def test_copies(self):
        course = Course(quiet_program(), gamma(ring(5), 2), 3)
        moves = moves_of(course, (9, 4, 7))
        reel = Reel(course, moves, 6)
        reel.seek(20)
        reel.seek(15)
        other = reel.copy()
        self.assertIs(other.__class__, Reel)
        self.assertFalse(other == reel)
        ahead = seen(reel)
        self.assertEqual(seen(other), ahead)
        other.seek(40)
        self.assertEqual(seen(reel), ahead)
        held = seen(other)
        reel.seek(16)
        reel.seek(len(moves))
        self.assertEqual(seen(other), held)
        self.assertEqual(other.worked(), 22)

    def test_equal_to_nothing_else(self):
        reel = Reel(example(), (), 1)
        for thing in [*no_integers(), *no_tuples(), Reel(example(), (), 1)]:
            self.assertFalse(reel == thing)


class Pictures(unittest.TestCase):
    def test_by_hand(self):
        course = example()
        self.assertEqual(drawn(course, first_glass(course)), "0 : asleep 0 0\n1 : asleep 0 1\n2 : asleep 0 2\n")
        states = (("says", 1, (-5,), 2, ((1, 1, 7),), (1,), (), ()), ("over", 2, (0,), 0, (), (), (), ()),
                  ("up", 0, (2 ** 31 - 1,), 0, (), (), (), ()))
        ways = ((0, 1, (("said", 1, -5), ("got", 0))), (1, 0, (("go", 999),)), (2, 1, (("said", 10, 2), ("up", 0), ("next", 3))))
        self.assertEqual(drawn(course, (states, ways)),
                         "0 : says 1 -5\n1 : over 2 0\n2 : up 0 2147483647\n"
                         "0>1: said.1.-5 got.0\n1>0: go.999\n2>1: said.10.2 up.0 next.3\n")

    def test_several_cells_and_rounds_of_two_figures(self):
        course = Course(quiet_program(), beta(row(2)), 40)
        states = (("down", 12, (3, -4), 0, (), (), (), ()), ("done", 40, (0, 0), 0, (), (), (), ()))
        self.assertEqual(drawn(course, (states, ())), "0 : down 12 3 -4\n1 : done 40 0 0\n")

    def test_against_a_second_account(self):
        many = set()
        for seed, course in enumerate(some_courses()):
            _, glasses = model.run(course, some_choices()[seed % 7])
            for glass in glasses[::3]:
                rows = []
                for house, state in enumerate(glass[0]):
                    rows.append(f"{house} : {state[0]} {state[1]}" + "".join(f" {cell}" for cell in state[2]))
                for sender, house, words in glass[1]:
                    many.add(len(words))
                    rows.append(f"{sender}>{house}:" + "".join(" " + ".".join(map(str, word)) for word in words))
                self.assertEqual(drawn(course, glass), "".join(row + "\n" for row in rows))
        self.assertGreater(max(many), 1)

    def test_no_glass(self):
        for thing in [*no_integers(), *no_tuples(), list(first_glass(example())), first_glass(example())[0],
                      first_glass(Course(small_program(), beta(row(4)), 2))]:
            self.assertIs(raised(drawn, example(), thing).__class__, NoGlass)


class Rounds(unittest.TestCase):
    def test_by_hand(self):
        course = Course(small_program(), beta(row(2)), 1)
        moves = (("start", 1), ("take", 1, 0), ("start", 0), ("take", 0, 1), ("take", 0, 1), ("take", 1, 0), ("take", 1, 0), ("take", 0, 1))
        self.assertEqual(drawn_rounds(course, moves), "---0000**\n-0000000*\n")
        for many in range(len(moves)):
            self.assertEqual(drawn_rounds(course, moves[:many]), "---0000**"[:many + 1] + "\n" + "-0000000*"[:many + 1] + "\n")
        self.assertEqual(drawn_rounds(Course(small_program(), alpha(Web(1, ())), 0), (("start", 0),)), "-*\n")
        self.assertEqual(drawn_rounds(Course(small_program(), alpha(Web(1, ())), 0), ()), "-\n")

    def test_against_a_second_account(self):
        listed = [*some_courses(), Course(small_program(), beta(row(2)), 40), Course(quiet_program(), alpha(star(4)), 23)]
        for seed, course in enumerate(listed):
            done, glasses = model.run(course, some_choices()[seed % 7])
            if len(done) > 3000:
                done, glasses = done[:3000], glasses[:3001]
            rows = drawn_rounds(course, tuple(done)).split("\n")
            self.assertEqual(rows.pop(), "")
            self.assertEqual(len(rows), course.keeper.web.many)
            for house, signs in enumerate(rows):
                due = [{"asleep": "-", "over": "*"}.get(glass[0][house][0], str(glass[0][house][1])[-1]) for glass in glasses]
                self.assertEqual(signs, "".join(due))

    def test_the_fact_of_pictures(self):
        for seed, course in enumerate(courses() + [Course(small_program(), gamma(ring(5), 2), 12)]):
            rows = drawn_rounds(course, moves_of(course, some_choices()[seed % 7])).split("\n")
            for house in range(course.keeper.web.many):
                for other in neighbours(course.keeper.web, house):
                    for one, two in zip(rows[house], rows[other]):
                        if one.isdigit() and two.isdigit():
                            self.assertIn((int(one) - int(two)) % 10, (0, 1, 9))


if __name__ == "__main__":
    unittest.main()
