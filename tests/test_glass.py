"""The glass, and runs [5.1], [5.2]."""

import random
import unittest

from sameround.errors import NoChoices, NoGlass, NoMove
from sameround.glass import all_words, beats, broken, first_glass, is_glass, moved, moves, run_out
from sameround.keepers import Course, Keeper, alpha, beta, depth, gamma, words_a_round
from sameround.lockstep import lockstep
from sameround.webs import Web, neighbours

from tests import model
from tests.helpers import (
    full, grown, no_integers, no_tuples, programs, quiet_program, raised, ring, row, silent_program,
    small_program, star)
from tests.test_states import keepers

# Of example(): three houses in a row, goal 2, one cell.
ASLEEP = ("asleep", 0, (0,), 0, (), (), (), ())


def example():
    return Course(small_program(), beta(row(3)), 2)


def some_courses():
    """A course for each keeper, by programs and goals in turn."""
    return [Course(programs()[at % 4], keeper, (2, 3, 1, 4, 0)[at % 5]) for at, keeper in enumerate(keepers())]


def some_choices():
    chance = random.Random(6)
    return [(), [0] * 3, [-1 % 7] * 400, [1] * 20, tuple(chance.randrange(100) for _ in range(300)),
            [chance.randrange(10 ** 20) for _ in range(2000)], (10 ** 20 - 1,)]


def with_state(glass, house, part, thing):
    """A glass with one part of a state otherwise."""
    states = [list(state) for state in glass[0]]
    states[house][part] = thing
    return (tuple(tuple(state) for state in states), glass[1])


def amid(course, choices, many):
    """The glass behind so many moves."""
    return model.run(course, choices)[1][many]


class First(unittest.TestCase):
    def test_first_glass(self):
        for course in some_courses():
            self.assertEqual(first_glass(course), model.first_glass(course))
            self.assertIs(is_glass(course, first_glass(course)), True)
            self.assertEqual(broken(course, first_glass(course)), ())
            self.assertEqual(moves(course, first_glass(course)),
                             tuple(("start", house) for house in range(course.keeper.web.many)))


class Moves(unittest.TestCase):
    def test_each_moment_and_each_move(self):
        for seed, course in enumerate(some_courses()):
            for choices in (some_choices()[seed % 7], some_choices()[5]):
                done, glasses = model.run(course, choices)
                for at, glass in enumerate(glasses):
                    self.assertEqual(moves(course, glass), tuple(model.moves(glass)))
                    self.assertEqual(broken(course, glass), ())
                    if at < len(done):
                        self.assertEqual(moved(course, glass, done[at]), glasses[at + 1])
                    if at % 5 == 0:
                        for move in model.moves(glass):
                            behind = moved(course, glass, move)
                            self.assertEqual(behind, model.moved(course, glass, move))
                            self.assertIs(is_glass(course, behind), True)
                            self.assertEqual(broken(course, behind), ())
                self.assertEqual(moves(course, glasses[-1]), ())

    def test_starts_are_ahead_of_takes(self):
        course = example()
        glass = moved(course, first_glass(course), ("start", 0))
        self.assertEqual(glass, ((("says", 0, (0,), 1, (), (), (), ()), ("asleep", 0, (1,), 0, (), (), (), ()),
                                  ("asleep", 0, (2,), 0, (), (), (), ())), ((0, 1, (("said", 0, 0),)),)))
        self.assertEqual(moves(course, glass), (("start", 1), ("start", 2), ("take", 0, 1)))

    def test_words_stay_in_order(self):
        course = example()
        glass = first_glass(course)
        for move in (("start", 1), ("start", 0), ("take", 1, 0)):
            glass = moved(course, glass, move)
        self.assertEqual(glass[1], ((0, 1, (("said", 0, 0), ("got", 0))), (1, 2, (("said", 0, 1),))))

    def test_no_glass(self):
        for thing in [*no_integers(), *no_tuples(), list(first_glass(example())), first_glass(example())[0],
                      first_glass(Course(small_program(), beta(row(4)), 2))]:
            self.assertIs(raised(moves, example(), thing).__class__, NoGlass)
            self.assertIs(raised(broken, example(), thing).__class__, NoGlass)
            for move in (("start", 0), None, ("take", 0, 1)):
                self.assertIs(raised(moved, example(), thing, move).__class__, NoGlass)

    def test_no_move(self):
        course = example()
        glass = amid(course, (), 3)
        things = [*no_integers(), *no_tuples(), ("start",), ("start", 0), ("start", 3), ("start", -1), ["start", 2],
                  ("take", 0, 2), ("take", 1, 1), ("take", 0), ("take", 0, 1, 0), ("hear", 0, 1), ("", 0), (0, "start"),
                  ("start", 1, 0), ("take", 2, 0), ("take", -1, 0), ("take", 3, 2), (b"start", 2), ("start",) * 5000]
        things.extend([("start", thing) for thing in no_integers()])
        things.extend([("take", 0, thing) for thing in no_integers()])
        for thing in things:
            self.assertIs(raised(moved, course, glass, thing).__class__, NoMove)
            if thing != ("start", 0):
                self.assertIs(raised(moved, course, first_glass(course), thing).__class__, NoMove)

    def test_flags_in_moves(self):
        course = example()
        self.assertIs(raised(moved, course, first_glass(course), ("start", True)).__class__, NoMove)
        self.assertIs(raised(moved, course, first_glass(course), ("start", False)).__class__, NoMove)
        glass = moved(course, first_glass(course), ("start", 0))
        for move in (("take", False, 1), ("take", 0, True), ("take", False, True)):
            self.assertIs(raised(moved, course, glass, move).__class__, NoMove)

    def test_each_move_that_cant_be_next(self):
        course = Course(small_program(), gamma(ring(5), 2), 2)
        _, glasses = model.run(course, some_choices()[4])
        every = [("start", house) for house in range(-1, 6)]
        every += [("take", one, other) for one in range(-1, 6) for other in range(-1, 6)]
        for glass in glasses[::4]:
            for move in set(every) - set(model.moves(glass)):
                self.assertIs(raised(moved, course, glass, move).__class__, NoMove)

    def test_words_that_are_none_then(self):
        course = example()
        states = first_glass(course)[0]
        for word in (("got", 0), ("said", 1, 5), ("up", 0), ("go", 0), ("next", 0), ("down", 0), ("said", 999, 0)):
            glass = (states, ((0, 1, (word, ("said", 0, 0))),))
            self.assertIs(is_glass(course, glass), True)
            self.assertEqual(moves(course, glass)[-1], ("take", 0, 1))
            self.assertIs(raised(moved, course, glass, ("take", 0, 1)).__class__, NoMove)
        glass = (states, ((0, 1, (("said", 0, 0), ("said", 0, 0))),))
        glass = moved(course, glass, ("take", 0, 1))
        self.assertIs(raised(moved, course, glass, ("take", 0, 1)).__class__, NoMove)

    def test_what_is_passed_is_not_changed(self):
        course = example()
        glass = amid(course, some_choices()[4], 6)
        again = amid(course, some_choices()[4], 6)
        for move in model.moves(glass):
            moved(course, glass, move)
            self.assertEqual(glass, again)


class IsGlass(unittest.TestCase):
    def check(self, due, ways, states=None):
        states = first_glass(example())[0] if states is None else states
        self.assertIs(is_glass(example(), (states, ways)), due)

    def test_right(self):
        words = (("said", 999, -2 ** 31), ("go", 0))
        self.check(True, ())
        self.check(True, ((0, 1, words), (1, 0, words), (1, 2, words[:1]), (2, 1, words * 50)))
        self.check(True, (), (ASLEEP, ("over", 2, (5,), 9, ((0, 0, 0),), (0, 2), (), (1,)), ASLEEP))

    def test_ways(self):
        good = (("got", 0),)
        for ways in ([], [(0, 1, good)], (0, 1, good), ([0, 1, good],), ((0, 1),), ((0, 1, good, ()),), ((0, 1, ()),),
                     ((0, 1, []),), ((0, 1, list(good)),), ((0, 1, good[0]),), ((0, 2, good),), ((2, 0, good),),
                     ((0, 0, good),), ((1, 3, good),), ((2, 3, good),), ((-1, 0, good),), ((0, -1, good),),
                     ((0, True, good),), ((False, 1, good),), ((1, 0, good), (0, 1, good)),
                     ((0, 1, good), (0, 1, good)), ((0, 1, good), (0, 1, good * 2)), ((1, 2, good), (1, 0, good))):
            self.check(False, ways)
        for thing in [*no_integers(), *no_tuples()]:
            if thing != ():
                self.check(False, thing)
            self.check(False, (thing,))
            self.check(False, ((0, 1, thing),))
            self.check(False, ((0, 1, (*good, thing)),))
        for thing in no_integers():
            self.check(False, ((1, thing, good),))
            self.check(False, ((thing, 1, good),))

    def test_words(self):
        for word in (("said", 0), ("said", 0, True), ("got", 1000), ("got", -1), ("got", False), ["got", 0], "got",
                     ("said", 0, 2 ** 31), ("gone", 0)):
            self.check(False, ((0, 1, (word,)),))
            self.check(False, ((0, 1, (("got", 0), word)),))

    def test_states(self):
        for states in ((), (ASLEEP,) * 2, (ASLEEP,) * 4, [ASLEEP] * 3, ASLEEP, (ASLEEP, ASLEEP, list(ASLEEP)),
                       (ASLEEP,) * 2000, (ASLEEP, None, ASLEEP)):
            self.check(False, (), states)
        glass = first_glass(example())
        for house in range(3):
            for part, thing in ((0, "awake"), (1, 3), (1, False), (2, (0, 0)), (2, (True,)), (2, (2 ** 31,)), (3, -1),
                                (3, False), (4, ((0, 3, 0),)), (4, ((True, 0, 0),)), (5, (3,)), (5, (False,)), (6, ((0, 3),)),
                                (6, ((0, True),)), (7, (1, 0)), (7, [])):
                self.assertIs(is_glass(example(), with_state(glass, house, part, thing)), False)

    def test_things_of_all_kinds(self):
        good = first_glass(example())
        for thing in [*no_integers(), *no_tuples(), list(good), good[:1], (*good, ()), (good[1], good[0]), good[0],
                      ((), ())]:
            self.assertIs(is_glass(example(), thing), False)
        self.assertIs(is_glass(Course(quiet_program(), beta(row(3)), 2), good), False)
        self.assertIs(is_glass(Course(small_program(), beta(full(3)), 0), good), True)


class Broken(unittest.TestCase):
    def check(self, course, glass, *due):
        self.assertEqual(broken(course, glass), due)
        self.assertEqual(model.broken(course, glass), due)

    def glass(self, rounds, owed, ways, course=None):
        """A glass of three houses in these rounds, with the cells of lockstep there."""
        cells = lockstep(row(3), small_program(), 3)
        return (tuple(("says", at, cells[at][house], owed[house], (), (), (), ())
                      for house, at in enumerate(rounds)), ways)

    def test_rounds(self):
        course = Course(small_program(), beta(row(3)), 3)
        self.check(course, self.glass((0, 1, 2), (0, 0, 0), ()))
        self.check(course, self.glass((0, 2, 2), (0, 0, 0), ()), "rounds")
        self.check(course, self.glass((2, 2, 0), (0, 0, 0), ()), "rounds")
        self.check(course, self.glass((3, 2, 3), (0, 0, 0), ()))
        self.check(course, self.glass((3, 1, 3), (0, 0, 0), ()), "rounds")

    def test_gots(self):
        course = Course(small_program(), beta(row(3)), 3)
        said, got = ("said", 2, 0), ("got", 0)
        self.check(course, self.glass((0, 0, 0), (1, 0, 0), ((0, 1, (said,)),)))
        self.check(course, self.glass((0, 0, 0), (0, 0, 0), ((0, 1, (said,)),)), "gots")
        self.check(course, self.glass((0, 0, 0), (0, 1, 0), ((0, 1, (said,)),)), "gots")
        self.check(course, self.glass((0, 0, 0), (2, 0, 0), ((0, 1, (said,)),)), "gots")
        self.check(course, self.glass((0, 0, 0), (0, 1, 0), ((0, 1, (got,)),)))
        self.check(course, self.glass((0, 0, 0), (1, 0, 0), ((0, 1, (got,)),)), "gots")
        self.check(course, self.glass((0, 0, 0), (1, 0, 0), ()), "gots")
        self.check(course, self.glass((0, 0, 0), (2, 2, 0), ((0, 1, (said, got)), (1, 0, (("up", 0), said, got)))))
        self.check(course, self.glass((0, 0, 0), (0, 0, 0), ((0, 1, (("up", 0), ("go", 0), ("done", 3))),)))

    def test_early(self):
        course = Course(small_program(), beta(row(3)), 3)
        self.check(course, self.glass((1, 1, 1), (1, 0, 0), ((0, 1, (("said", 1, 0),)),)))
        self.check(course, self.glass((1, 1, 1), (1, 0, 0), ((0, 1, (("said", 0, 0),)),)), "early")
        self.check(course, self.glass((0, 0, 1), (0, 1, 0), ((1, 2, (("said", 0, 0),)),)), "early")
        self.check(course, self.glass((0, 0, 1), (0, 0, 0), ((1, 2, (("up", 0),)),)))
        self.check(course, self.glass((1, 1, 1), (2, 0, 0), ((0, 1, (("said", 1, 0), ("said", 0, 0))),)), "early")

    def test_cells(self):
        course = Course(small_program(), beta(row(3)), 3)
        self.check(course, with_state(self.glass((0, 0, 0), (0, 0, 0), ()), 2, 2, (1,)), "cells")
        self.check(course, with_state(self.glass((1, 1, 1), (0, 0, 0), ()), 1, 2, (1,)), "cells")
        glass = first_glass(course)
        self.check(course, with_state(glass, 1, 2, (0,)), "cells")
        self.check(course, with_state(glass, 1, 1, 1), "cells")

    def test_several(self):
        course = Course(small_program(), beta(row(3)), 3)
        wrong = with_state(self.glass((3, 1, 0), (0, 0, 0), ((1, 0, (("said", 2, 0),)),)), 2, 2, (7,))
        self.check(course, wrong, "rounds", "gots", "early", "cells")
        self.check(course, with_state(wrong, 1, 3, 1), "rounds", "early", "cells")
        self.check(course, with_state(wrong, 0, 1, 2), "gots", "cells")

    def test_any_glasses(self):
        chance = random.Random(12)
        seen = set()
        for seed, course in enumerate(some_courses()):
            _, glasses = model.run(course, some_choices()[5])
            many = course.keeper.web.many
            for _ in range(40):
                glass = chance.choice(glasses)
                for _ in range(chance.randint(1, 2)):
                    house = chance.randrange(many)
                    state = glass[0][house]
                    glass = chance.choice([
                        with_state(glass, house, 1, chance.randint(0, course.goal)),
                        with_state(glass, house, 3, state[3] + chance.randint(0, 1)),
                        with_state(glass, house, 2, tuple(n ^ chance.randint(0, 1) for n in state[2])),
                        (glass[0], glass[1][1:]),
                        (glass[0], tuple((*way[:2], way[2] * 2) for way in glass[1]))])
                due = model.broken(course, glass)
                seen.add(due)
                self.assertEqual(broken(course, glass), due)
        self.assertGreaterEqual(len(seen), 9)


class Runs(unittest.TestCase):
    def test_example(self):
        self.assertEqual(all_words(example()), 24)
        self.assertEqual(run_out(example(), ())[1], 24)
        self.assertEqual(beats(example()), 12)

    def check(self, course, choices):
        done, glasses = model.run(course, choices)
        takes = len([move for move in done if move[0] == "take"])
        glass, told = run_out(course, choices)
        self.assertEqual((glass, told), (glasses[-1], takes))
        self.assertEqual(takes, all_words(course))
        self.assertEqual(glass[1], ())
        self.assertEqual({state[:2] for state in glass[0]}, {("over", course.goal)})
        rows, _ = model.rounds(course.keeper.web, course.program, course.goal)
        self.assertEqual([state[2] for state in glass[0]], list(rows[-1]))

    def test_the_fact_of_ends(self):
        for course in some_courses():
            for choices in some_choices():
                self.check(course, choices)

    def test_forty_rounds(self):
        for keeper in (alpha(row(2)), beta(full(4)), gamma(grown(8, 4, 5), 2)):
            for choices in ((), [5, 3] * 1000):
                self.check(Course(programs()[3], keeper, 40), choices)

    def test_all_words(self):
        for course in some_courses():
            said = model.said_in(course.keeper.web, course.program, course.goal)
            self.assertEqual(all_words(course), course.goal * words_a_round(course.keeper) + 2 * said)

    def test_choices_behind_the_last_move(self):
        course = example()
        self.assertEqual(run_out(course, (0,) * 5000), run_out(course, ()))
        self.assertIs(raised(run_out, course, (0,) * 5000 + (None,)).__class__, NoChoices)
        self.assertEqual(raised(run_out, course, (0,) * 5000 + (None,)).index, 5000)

    def test_wrong_choices(self):
        for thing in no_tuples():
            if not isinstance(thing, list):
                wrong = raised(run_out, example(), thing)
                self.assertIs(wrong.__class__, NoChoices)
                self.assertEqual(wrong.index, -1)
        for thing in (-1, -10 ** 19, *no_integers()):
            for choices, index in (([thing], 0), ((1, 2, thing), 2), ([1, thing, thing], 1), ((thing, 1), 0)):
                wrong = raised(run_out, example(), choices)
                self.assertIs(wrong.__class__, NoChoices)
                self.assertEqual(wrong.index, index)

    def test_choices_are_not_changed(self):
        choices = [3, 1, 4]
        run_out(example(), choices)
        self.assertEqual(choices, [3, 1, 4])


class Beats(unittest.TestCase):
    def test_against_a_second_account_and_the_bound(self):
        for at, keeper in enumerate(keepers()):
            for goal in (0, 1, 3):
                for program in (programs()[at % 4], quiet_program()):
                    course = Course(program, keeper, goal)
                    told = beats(course)
                    self.assertEqual(told, model.beats(course))
                    bound = 3 + 4 * depth(keeper) if keeper.chosen else 2 + 2 * depth(keeper)
                    self.assertLessEqual(told, goal * bound)

    def test_by_hand(self):
        self.assertEqual(beats(Course(small_program(), alpha(Web(1, ())), 40)), 0)
        self.assertEqual(beats(Course(small_program(), beta(row(2)), 0)), 0)
        # said, got, up, go.
        self.assertEqual(beats(Course(small_program(), beta(row(2)), 1)), 4)
        # up, go.
        self.assertEqual(beats(Course(silent_program(), beta(row(2)), 1)), 2)
        # said, got, next.
        self.assertEqual(beats(Course(small_program(), alpha(row(2)), 1)), 3)
        self.assertEqual(beats(Course(silent_program(), alpha(star(8)), 40)), 40)
        keeper = Keeper(ring(8), (1, 2, 3, None, None, 4, 5, 6), ((0, 7),))
        # said, got, three times up, down, next, three times done, go; down comes to house 0 late.
        self.assertEqual(beats(Course(small_program(), keeper, 1)), 15)


if __name__ == "__main__":
    unittest.main()
