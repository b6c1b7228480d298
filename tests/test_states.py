"""What a house knows and does [4.1], [4.2], [4.3]."""

import random
import unittest

from sameround.errors import NoHouse, NotAsleep, NoWord
from sameround.keepers import Course, Keeper, alpha, beta, gamma, words_a_round
from sameround.states import begun, heard, is_state, is_word, started
from sameround.webs import Web, neighbours

from tests import model
from tests.helpers import (
    full, grown, no_integers, no_tuples, programs, quiet_program, raised, ring, row, silent_program,
    small_program, star)

WORDS = ("said", "got", "up", "down", "next", "done", "go")
LOW, HIGH = -2 ** 31, 2 ** 31 - 1
ORDERS = ("first", "last", "any", "starts last")


def example():
    return Course(small_program(), beta(row(3)), 2)


def keepers():
    """Keepers of all sorts on webs of 1 to 8 houses."""
    made = []
    for web in (Web(1, ()), row(2), row(3), full(4), star(5), ring(6), grown(7, 3, 2), grown(8, 4, 5), row(8)):
        made.extend([alpha(web), beta(web), gamma(web, 2), gamma(web, 3)])
    # Leaders that are no least houses, and deep clusters beside each other.
    made.append(Keeper(row(4), (1, 2, 3, None), ()))
    made.append(Keeper(ring(8), (1, 2, 3, None, None, 4, 5, 6), ((0, 7),)))
    made.append(Keeper(full(5), (4, None, 1, None, None), ((0, 3), (1, 3), (2, 4))))
    return made


def some_courses():
    """A course for each keeper, with programs and goals in turn."""
    made = []
    for at, keeper in enumerate(keepers()):
        made.append(Course(programs()[at % 4], keeper, (at % 5) if at % 7 else 9))
        made.append(Course(quiet_program(), keeper, 3))
    return made


class Walk:
    """A run by started and heard alone; states and words on their way are kept here."""

    def __init__(self, course, order, seed=0):
        self.course, self.order, self.chance = course, order, random.Random(seed)
        self.states = [begun(course, house) for house in range(course.keeper.web.many)]
        self.ways, self.sent, self.entered = {}, [], [0] * len(self.states)

    def moves(self):
        starts = [(house,) for house, state in enumerate(self.states) if state[0] == "asleep"]
        takes = sorted(way for way, words in self.ways.items() if words)
        return takes + starts if self.order == "starts last" else starts + takes

    def step(self):
        moves = self.moves()
        at = {"first": 0, "last": -1, "starts last": 0}.get(self.order, self.chance.randrange(len(moves)))
        move = moves[at]
        if len(move) == 1:
            house, (state, out) = move[0], started(self.course, move[0], self.states[move[0]])
        else:
            house = move[1]
            state, out = heard(self.course, house, self.states[house], move[0], self.ways[move].pop(0))
        self.states[house] = state
        for other, word in out:
            self.ways.setdefault((house, other), []).append(word)
            self.sent.append((house, other, word))

    def run(self):
        while self.moves():
            self.step()


def candidates(course):
    """Words of all sorts, of rounds about all that can come."""
    made = []
    for at in range(course.goal + 3):
        made.extend([(word, at) for word in WORDS if word != "said"])
        made.extend([("said", at, 0), ("said", at, HIGH)])
    return made


class Examples(unittest.TestCase):
    def test_examples(self):
        course = example()
        self.assertEqual(started(course, 0, begun(course, 0)),
                         (("says", 0, (0,), 1, (), (), (), ()), ((1, ("said", 0, 0)),)))
        self.assertEqual(heard(course, 2, begun(course, 2), 1, ("said", 0, 1)),
                         (("asleep", 0, (2,), 0, ((0, 1, 1),), (), (), ()), ((1, ("got", 0)),)))


class Begun(unittest.TestCase):
    def test_begun(self):
        for course in some_courses():
            web = course.keeper.web
            for house in range(web.many):
                due = ("asleep", 0, model.starts(web, course.program, house), 0, (), (), (), ())
                self.assertEqual(begun(course, house), due)

    def test_wrong_houses(self):
        for house in (3, -1, 10 ** 20 - 1, *no_integers()):
            self.assertIs(raised(begun, example(), house).__class__, NoHouse)


class IsWord(unittest.TestCase):
    def test_right(self):
        for word in WORDS:
            for at in (0, 1, 40, 999):
                for number in (0, LOW, HIGH, -1):
                    thing = ("said", at, number) if word == "said" else (word, at)
                    self.assertIs(is_word(thing), True)

    def test_wrong_rounds(self):
        for at in (1000, -1, 10 ** 20 - 1, *no_integers()):
            for word in WORDS:
                self.assertIs(is_word((word, at, 5) if word == "said" else (word, at)), False)

    def test_wrong_numbers(self):
        for number in (HIGH + 1, LOW - 1, 10 ** 20 - 1, *no_integers()):
            self.assertIs(is_word(("said", 0, number)), False)

    def test_lengths(self):
        for word in WORDS:
            for rest in ((), (0,), (0, 0), (0, 0, 0), (0, 0, 0, 0), (0,) * 5000):
                self.assertIs(is_word((word, *rest)), len(rest) == (2 if word == "said" else 1))

    def test_things_of_all_kinds(self):
        for thing in [*no_integers(), *no_tuples(), ["got", 0], ("Got", 0), ("", 0), ("start", 0), (b"got", 0),
                      "got", ("got",), (0, "got"), (("got", 0),), ("over", 0), ("says", 0), ("said 0", 0),
                      *[(thing, 0) for thing in no_tuples()], *[(thing, 0, 0) for thing in no_tuples()]]:
            self.assertIs(is_word(thing), False)


class IsState(unittest.TestCase):
    # Of example(): three houses, goal 2, one cell.
    good = ("says", 1, (5,), 3, ((1, 0, 7), (1, 2, LOW), (2, 0, 1)), (0, 2), ((1, 1), (2, 0)), (1,))

    def check(self, due, *changes):
        state = list(self.good)
        for part, thing in changes:
            state[part] = thing
        for house in range(3):
            self.assertIs(is_state(example(), house, tuple(state)), due)

    def test_right(self):
        self.check(True)
        for stage in ("asleep", "says", "up", "down", "done", "over"):
            for at in (0, 1, 2):
                self.check(True, (0, stage), (1, at))
        for cells in ((LOW,), (HIGH,), (0,)):
            self.check(True, (2, cells))
        for owed in (0, 1, 10 ** 20 - 1):
            self.check(True, (3, owed))
        self.check(True, (4, ()), (5, ()), (6, ()), (7, ()))
        self.check(True, (4, ((0, 0, 0), (0, 0, 1), (0, 1, -1), (2, 2, HIGH))))
        self.check(True, (5, (0, 1, 2)), (6, ((0, 0), (0, 1), (2, 2))), (7, (2,)))

    def test_stages(self):
        for thing in ("", "Asleep", "say", "next", "go", b"up", ("up",), *no_integers(), *no_tuples()):
            self.check(False, (0, thing))

    def test_rounds(self):
        for thing in (3, -1, 10 ** 20 - 1, *no_integers()):
            self.check(False, (1, thing))
            self.check(False, (4, ((thing, 0, 0),)))
            self.check(False, (6, ((thing, 0),)))

    def test_cells(self):
        for thing in ((), (1, 2), [1], (HIGH + 1,), (LOW - 1,), (True,), *no_tuples(),
                      *[(thing,) for thing in no_integers()]):
            self.check(False, (2, thing))

    def test_owed(self):
        for thing in (-1, *no_integers()):
            self.check(False, (3, thing))

    def test_senders(self):
        for thing in (3, -1, 10 ** 20 - 1, *no_integers()):
            self.check(False, (4, ((0, thing, 0),)))
            self.check(False, (5, (thing,)))
            self.check(False, (6, ((0, thing),)))
            self.check(False, (7, (thing,)))

    def test_numbers_that_were_said(self):
        for thing in (HIGH + 1, LOW - 1, *no_integers()):
            self.check(False, (4, ((0, 0, thing),)))

    def test_ascending(self):
        self.check(False, (4, ((1, 0, 0), (0, 0, 0))))
        self.check(False, (4, ((0, 0, 0), (0, 0, 0))))
        self.check(False, (4, ((0, 1, 0), (0, 0, 5))))
        self.check(False, (4, ((0, 0, 5), (0, 0, 4))))
        for part in (5, 7):
            self.check(False, (part, (1, 0)))
            self.check(False, (part, (1, 1)))
            self.check(False, (part, (0, 2, 1)))
        self.check(False, (6, ((0, 1), (0, 0))))
        self.check(False, (6, ((1, 0), (0, 2))))
        self.check(False, (6, ((0, 0), (0, 0))))

    def test_shapes_within(self):
        for thing in (((0, 0),), ((0, 0, 0, 0),), ([0, 0, 0],), [(0, 0, 0)], (0, 0, 0), ((0, 0, 0),) * 2000):
            self.check(False, (4, thing))
        for thing in (((0,),), ((0, 0, 0),), ([0, 0],), [(0, 0)], (0, 0), (0,), ((0, 0),) * 2000):
            self.check(False, (6, thing))
        for thing in ([], [0], ((0,),), "0", (None,)):
            self.check(False, (5, thing))
            self.check(False, (7, thing))
        for thing in no_tuples():
            for part in (4, 5, 6, 7):
                self.check(False, (part, thing))
            self.check(False, (4, (thing,)))
            self.check(False, (6, (thing,)))

    def test_things_of_all_kinds(self):
        for thing in [*no_integers(), *no_tuples(), list(self.good), self.good[:7], (*self.good, ()), self.good * 2]:
            self.assertIs(is_state(example(), 0, thing), False)

    def test_cells_of_the_program_and_rounds_of_the_goal(self):
        state = ("up", 3, (1, 2), 0, (), (), (), ())
        self.assertIs(is_state(Course(quiet_program(), beta(row(3)), 3), 0, state), True)
        self.assertIs(is_state(Course(quiet_program(), beta(row(3)), 2), 0, state), False)
        self.assertIs(is_state(Course(small_program(), beta(row(3)), 3), 0, state), False)

    def test_wrong_houses(self):
        for house in (3, -1, 10 ** 20 - 1, *no_integers()):
            for thing in (self.good, None):
                self.assertIs(raised(is_state, example(), house, thing).__class__, NoHouse)


class Started(unittest.TestCase):
    def test_wrong_houses(self):
        course = example()
        for house in (3, -1, *no_integers()):
            for state in (begun(course, 0), None, ("over",)):
                self.assertIs(raised(started, course, house, state).__class__, NoHouse)

    def test_not_asleep(self):
        course = example()
        for stage in ("says", "up", "down", "done", "over"):
            state = (stage, 0, (0,), 0, (), (), (), ())
            self.assertIs(raised(started, course, 0, state).__class__, NotAsleep)
        state = started(course, 0, begun(course, 0))[0]
        self.assertIs(raised(started, course, 0, state).__class__, NotAsleep)
        for thing in [*no_integers(), *no_tuples(), list(begun(course, 0)), begun(course, 0)[:7],
                      ("asleep", False, (0,), 0, (), (), (), ()), ("asleep",)]:
            self.assertIs(raised(started, course, 0, thing).__class__, NotAsleep)

    def test_goal_0(self):
        for keeper in keepers():
            course = Course(small_program(), keeper, 0)
            for house in range(keeper.web.many):
                self.assertEqual(started(course, house, begun(course, house)),
                                 (("over", 0, (house,), 0, (), (), (), ()), ()))

    def test_alone(self):
        for keeper in (alpha(Web(1, ())), beta(Web(1, ())), gamma(Web(1, ()), 5)):
            for goal in (1, 2, 40):
                course = Course(silent_program(), keeper, goal)
                self.assertEqual(started(course, 0, begun(course, 0)),
                                 (("over", goal, (goal,), 0, (), (), (), ()), ()))

    def test_what_was_heard_asleep_is_kept(self):
        course = Course(silent_program(), beta(row(3)), 1)
        state, out = heard(course, 1, begun(course, 1), 2, ("up", 0))
        self.assertEqual((state, out), (("asleep", 0, (0,), 0, (), (2,), (), ()), ()))
        self.assertEqual(started(course, 1, state),
                         (("up", 0, (0,), 0, (), (2,), (), ()), ((0, ("up", 0)),)))
        state, out = heard(course, 0, begun(course, 0), 1, ("up", 0))
        self.assertEqual(started(course, 0, state),
                         (("over", 1, (1,), 0, (), (), (), ()), ((1, ("go", 0)),)))

    def test_states_by_form(self):
        # Such states never come, but by their form they are asleep.
        course = example()
        self.assertEqual(started(course, 1, ("asleep", 2, (9,), 5, ((0, 0, 3),), (0,), (), (1,))),
                         (("says", 0, (9,), 2, ((0, 0, 3),), (0,), (), (1,)),
                          ((0, ("said", 0, 9)), (2, ("said", 0, 9)))))


class Heard(unittest.TestCase):
    def test_errors_in_order(self):
        course = example()
        for house in (3, -1, *no_integers()):
            self.assertIs(raised(heard, course, house, begun(course, 0), 0, None).__class__, NoHouse)
            self.assertIs(raised(heard, course, 0, begun(course, 0), house, None).__class__, NoHouse)
            self.assertIs(raised(heard, course, 0, begun(course, 0), house, ("said", 0, 1)).__class__, NoHouse)

    def test_no_words(self):
        course = example()
        for thing in [*no_integers(), *no_tuples(), ("said", 0), ("said", 0, True), ("said", False, 1),
                      ("said", 0, HIGH + 1), ["said", 0, 1], ("said", 0, 1, 2), ("told", 0), ("got", 1000)]:
            self.assertIs(raised(heard, course, 1, begun(course, 1), 0, thing).__class__, NoWord)

    def test_no_neighbours(self):
        course = example()
        self.assertIs(raised(heard, course, 0, begun(course, 0), 2, ("said", 0, 1)).__class__, NoWord)
        self.assertIs(raised(heard, course, 0, begun(course, 0), 0, ("said", 0, 1)).__class__, NoWord)

    def check(self, course, house, state, sender, *due):
        """Just these words, of all, can be heard then."""
        for word in candidates(course):
            told = None
            if word in due or word[0] == "said" and word[:2] in due:
                told = heard(course, house, state, sender, word)
            else:
                self.assertIs(raised(heard, course, house, state, sender, word).__class__, NoWord, word)
            self.assertEqual(told, model.hear(course, house, state, sender, word))

    def test_asleep(self):
        course = Course(small_program(), beta(row(3)), 3)
        self.check(course, 1, begun(course, 1), 0, ("said", 0))
        self.check(course, 1, begun(course, 1), 2, ("said", 0), ("up", 0))
        state = heard(course, 1, begun(course, 1), 2, ("up", 0))[0]
        self.check(course, 1, state, 2, ("said", 0))
        state = heard(course, 1, begun(course, 1), 2, ("said", 0, 5))[0]
        self.check(course, 1, state, 2, ("up", 0))
        course = Course(small_program(), alpha(row(3)), 3)
        self.check(course, 1, begun(course, 1), 0, ("said", 0), ("next", 0))
        state = heard(course, 1, begun(course, 1), 0, ("next", 0))[0]
        self.assertEqual(state, ("asleep", 0, (1,), 0, (), (), ((0, 0),), ()))
        self.check(course, 1, state, 0, ("said", 0))
        self.check(course, 1, state, 2, ("said", 0), ("next", 0))

    def test_goal_0_asleep(self):
        course = Course(small_program(), alpha(row(3)), 0)
        self.check(course, 1, begun(course, 1), 0)

    def test_one_cluster(self):
        # A row of three from its middle: house 1 has the child 2 and the parent 0.
        course = Course(small_program(), beta(row(3)), 4)

        def state(stage, owed, saids=(), ups=()):
            return (stage, 1, (5,), owed, saids, ups, (), ())

        self.check(course, 1, state("says", 1), 0, ("said", 1), ("said", 2), ("got", 1))
        self.check(course, 1, state("says", 1), 2, ("said", 1), ("said", 2), ("got", 1), ("up", 1))
        self.check(course, 1, state("says", 0), 2, ("said", 1), ("said", 2), ("up", 1))
        self.check(course, 1, state("says", 1, (), (2,)), 2, ("said", 1), ("said", 2), ("got", 1))
        self.check(course, 1, state("says", 0, ((1, 2, 0),)), 2, ("said", 2), ("up", 1))
        self.check(course, 1, state("says", 0, ((2, 2, 0),)), 2, ("said", 1), ("up", 1))
        self.check(course, 1, state("up", 0, (), (2,)), 0, ("said", 1), ("said", 2), ("go", 1))
        self.check(course, 1, state("up", 0, (), (2,)), 2, ("said", 1), ("said", 2))
        self.check(course, 1, state("over", 2, (), ()), 2)
        self.check(course, 1, state("over", 2, (), ()), 0)

    def test_several_clusters(self):
        # 0 - 1 - 2 - 3 - 4, the clusters 0 1 2 and 3 4: house 1 has the child 2 and the parent 0.
        keeper = Keeper(row(5), (None, 0, 1, None, 3), ((2, 3),))
        course = Course(small_program(), keeper, 4)

        def state(stage, ups=(), nexts=(), dones=()):
            return (stage, 1, (5,), 0, (), ups, nexts, dones)

        self.check(course, 1, state("says"), 2, ("said", 1), ("said", 2), ("up", 1))
        self.check(course, 1, state("says"), 0, ("said", 1), ("said", 2))
        self.check(course, 1, state("up", (2,)), 0, ("said", 1), ("said", 2), ("down", 1))
        self.check(course, 1, state("up", (2,)), 2, ("said", 1), ("said", 2))
        self.check(course, 1, state("down", (2,)), 0, ("said", 1), ("said", 2))
        self.check(course, 1, state("down", (2,)), 2, ("said", 1), ("said", 2), ("done", 1))
        self.check(course, 1, state("down", (2,), (), (2,)), 2, ("said", 1), ("said", 2))
        self.check(course, 1, state("done", (2,), (), (2,)), 0, ("said", 1), ("said", 2), ("go", 1))
        self.check(course, 1, state("done", (2,), (), (2,)), 2, ("said", 1), ("said", 2))
        # House 2 has the chosen tie.
        for stage in ("says", "up", "down", "done"):
            self.check(course, 2, state(stage), 3, ("said", 1), ("said", 2), ("next", 1), ("next", 2))
            self.check(course, 2, state(stage, (), ((1, 3),)), 3, ("said", 1), ("said", 2), ("next", 2))
            self.check(course, 2, state(stage, (), ((2, 3),)), 3, ("said", 1), ("said", 2), ("next", 1))
        self.check(course, 2, state("over"), 3)

    def test_next_is_below_the_goal(self):
        course = Course(small_program(), alpha(row(3)), 2)
        state = ("says", 1, (5,), 2, (), (), (), ())
        self.check(course, 1, state, 0, ("said", 1), ("next", 1), ("got", 1))

    def test_a_tie_that_is_not_chosen(self):
        keeper = Keeper(ring(4), (None, 0, None, 2), ((0, 3),))
        course = Course(small_program(), keeper, 2)
        state = ("says", 0, (5,), 1, (), (), (), ())
        self.check(course, 1, state, 2, ("said", 0), ("said", 1), ("got", 0))
        self.check(course, 3, state, 0, ("said", 0), ("said", 1), ("got", 0), ("next", 0), ("next", 1))

    def test_states_by_form(self):
        # Of such states, which never come, the words of the document tell what comes next all the same.
        course = Course(small_program(), Keeper(row(5), (None, 0, 1, None, 3), ((2, 3),)), 3)
        chance = random.Random(8)
        many_heard = 0
        for _ in range(15000):
            def lot():
                return tuple(k for k in range(5) if chance.random() < 0.3)
            state = (chance.choice(("asleep", "says", "up", "down", "done", "over")), chance.randrange(4),
                     (chance.choice((LOW, 4, HIGH)),), chance.randrange(3),
                     tuple(sorted({(chance.randrange(4), chance.randrange(5), chance.randrange(9)) for _ in lot()})),
                     lot(), tuple(sorted({(chance.randrange(4), chance.randrange(5)) for _ in lot()})), lot())
            house, sender, word = chance.randrange(5), chance.randrange(5), chance.choice(candidates(course))
            self.assertIs(is_state(course, house, state), True)
            due = model.hear(course, house, state, sender, word)
            if due is None:
                self.assertIs(raised(heard, course, house, state, sender, word).__class__, NoWord)
            else:
                many_heard += 1
                self.assertEqual(heard(course, house, state, sender, word), due)
            if state[0] == "asleep":
                self.assertEqual(started(course, house, state), model.start(course, house, state))
        self.assertGreater(many_heard, 200)

    def test_a_refusal_changes_nothing(self):
        course = example()
        state = begun(course, 1)
        raised(heard, course, 1, state, 0, ("got", 0))
        self.assertEqual(state, begun(course, 1))


class Rows(unittest.TestCase):
    """By hand: what is sent, in order."""

    def test_a_leader_passes_the_round(self):
        course = Course(small_program(), beta(star(3)), 3)
        state = ("says", 1, (0,), 0, ((1, 1, -4), (1, 2, 7), (2, 1, 8)), (1,), (), ())
        self.assertEqual(heard(course, 0, state, 2, ("up", 1)), (
            ("says", 2, (-4,), 2, ((2, 1, 8),), (), (), ()),
            ((1, ("go", 1)), (2, ("go", 1)), (1, ("said", 2, -4)), (2, ("said", 2, -4)))))

    def test_a_leader_spreads(self):
        # 1 leads 0 and 2; 3 and 4 lead themselves, with chosen ties (0, 3), (1, 3), (2, 4) between them.
        keeper = Keeper(full(5), (1, None, 1, None, None), ((0, 3), (1, 4), (3, 4)))
        course = Course(small_program(), keeper, 3)
        state = ("says", 1, (5,), 1, (), (0, 2), (), ())
        told, out = heard(course, 1, state, 3, ("got", 1))
        self.assertEqual((told, out), (("down", 1, (5,), 0, (), (0, 2), (), ()),
                                       ((0, ("down", 1)), (2, ("down", 1)), (4, ("next", 1)))))
        told, out = heard(course, 1, told, 4, ("next", 1))
        self.assertEqual((told, out), (("down", 1, (5,), 0, (), (0, 2), ((1, 4),), ()), ()))
        told, out = heard(course, 1, told, 0, ("done", 1))
        self.assertEqual((told, out), (("down", 1, (5,), 0, (), (0, 2), ((1, 4),), (0,)), ()))
        told, out = heard(course, 1, told, 4, ("next", 2))
        told, out = heard(course, 1, told, 2, ("done", 1))
        self.assertEqual(told, ("says", 2, (0,), 4, (), (), ((2, 4),), ()))
        self.assertEqual(out[:3], ((0, ("go", 1)), (2, ("go", 1)), (0, ("said", 2, 0))))

    def test_down_that_is_at_once_done(self):
        course = Course(small_program(), Keeper(row(3), (None, 0, None), ((1, 2),)), 3)
        state = ("up", 0, (5,), 0, (), (), ((0, 2),), ())
        self.assertEqual(heard(course, 1, state, 0, ("down", 0)), (
            ("done", 0, (5,), 0, (), (), ((0, 2),), ()), ((2, ("next", 0)), (0, ("done", 0)))))

    def test_got_then_up(self):
        course = example()
        state = ("says", 0, (2,), 1, (), (), (), ())
        self.assertEqual(heard(course, 2, state, 1, ("got", 0)),
                         (("up", 0, (2,), 0, (), (), (), ()), ((1, ("up", 0)),)))
        self.assertEqual(heard(course, 2, ("up", 0, (2,), 0, (), (), (), ()), 1, ("said", 0, 4)),
                         (("up", 0, (2,), 0, ((0, 1, 4),), (), (), ()), ((1, ("got", 0)),)))

    def test_over(self):
        course = example()
        state = ("up", 1, (2,), 0, ((1, 1, -3),), (), (), ())
        self.assertEqual(heard(course, 2, state, 1, ("go", 1)), (("over", 2, (-3,), 0, (), (), (), ()), ()))

    def test_over_owes_nothing(self):
        # Who is over says nothing, so nothing of it is without an answer.
        state = ("up", 1, (2,), 4, (), (), (), ())
        self.assertEqual(heard(example(), 2, state, 1, ("go", 1))[0], ("over", 2, (0,), 0, (), (), (), ()))

    def test_several_rounds_at_once(self):
        # The neighbour, which has nothing to wait for but next, told of two rounds ahead of this one.
        course = Course(silent_program(), alpha(row(2)), 3)
        state, out = started(course, 0, begun(course, 0))
        self.assertEqual((state, out), (("down", 0, (0,), 0, (), (), (), ()), ((1, ("next", 0)),)))
        state, out = heard(course, 0, state, 1, ("next", 1))
        self.assertEqual((state[6], out), (((1, 1),), ()))
        state, out = heard(course, 0, state, 1, ("next", 0))
        self.assertEqual((state, out), (("down", 2, (2,), 0, (), (), (), ()),
                                        ((1, ("next", 1)), (1, ("next", 2)))))


class Runs(unittest.TestCase):
    def check_moment(self, walk):
        course, web = walk.course, walk.course.keeper.web
        for house in range(web.many):
            state = walk.states[house]
            self.assertIs(is_state(course, house, state), True)
            for other in neighbours(web, house):
                self.assertLessEqual(abs(state[1] - walk.states[other][1]), 1)

    def check_end(self, walk):
        course, keeper = walk.course, walk.course.keeper
        rows, told = model.rounds(keeper.web, course.program, course.goal)
        self.assertEqual([state[0] for state in walk.states], ["over"] * keeper.web.many)
        self.assertEqual([state[2] for state in walk.states], list(rows[-1]))
        self.assertEqual([state[3:] for state in walk.states], [(0, (), (), (), ())] * keeper.web.many)
        many_said = sum(len(pairs) for said in told for pairs in said)
        self.assertEqual(len(walk.sent), course.goal * words_a_round(keeper) + 2 * many_said)
        for at in range(course.goal):
            kept = [word for _, _, word in walk.sent if word[1] == at and word[0] not in ("said", "got")]
            self.assertEqual(len(kept), words_a_round(keeper))
            due = sorted((house, other, number) for house, pairs in enumerate(told[at])
                         for other, number in pairs.items())
            self.assertEqual(sorted((house, other, word[2]) for house, other, word in walk.sent
                                    if word[:2] == ("said", at)), due)

    def test_whole_runs(self):
        for seed, course in enumerate(some_courses()):
            for order in ORDERS:
                with self.subTest(seed=seed, order=order):
                    walk = Walk(course, order, seed)
                    while walk.moves():
                        walk.step()
                        self.check_moment(walk)
                    self.check_end(walk)

    def test_forty_rounds(self):
        for keeper in (alpha(row(4)), beta(ring(5)), gamma(grown(8, 4, 5), 2)):
            walk = Walk(Course(quiet_program(), keeper, 40), "any", 4)
            walk.run()
            self.check_end(walk)

    def test_each_step_and_each_refusal(self):
        """At each moment of some runs all words from all houses are tried."""
        for seed, keeper in enumerate(keepers()):
            course = Course(programs()[(seed + 1) % 4], keeper, 2)
            walk = Walk(course, "any", seed)
            many = keeper.web.many
            while walk.moves():
                walk.step()
                house, sender = walk.chance.randrange(many), walk.chance.randrange(many)
                state = walk.states[house]
                for word in candidates(course):
                    due = model.hear(course, house, state, sender, word)
                    if due is None:
                        wrong = raised(heard, course, house, state, sender, word)
                        self.assertIs(wrong.__class__, NoWord)
                    else:
                        self.assertEqual(heard(course, house, state, sender, word), due)

    def test_a_word_comes_but_once(self):
        """In any run no word can be heard a second time, but a got that stands for another one."""
        for seed, keeper in enumerate(keepers()[::3]):
            course = Course(small_program(), keeper, 2)
            walk = Walk(course, "any", seed)
            while walk.moves():
                ahead = {way: list(words) for way, words in walk.ways.items()}
                walk.step()
                for way, words in ahead.items():
                    if len(walk.ways[way]) < len(words) and words[0][0] != "got":
                        wrong = raised(heard, course, way[1], walk.states[way[1]], way[0], words[0])
                        self.assertIs(wrong.__class__, NoWord)


if __name__ == "__main__":
    unittest.main()
