"""Records [6.1], [6.2]."""

import random
import unittest

from sameround.errors import BadRecord, NoChoices, NoMoment, NoNumber
from sameround.keepers import Course, alpha, beta, gamma
from sameround.records import (
    Record, causes, cells_then, entered, first_wrong, longest_chain, on_way, recorded, vectors)
from sameround.webs import Web, neighbours

from tests import model
from tests.helpers import (
    full, grown, no_integers, no_tuples, programs, quiet_program, raised, ring, row, silent_program,
    small_program, star)
from tests.test_states import keepers


def told(goal, *events, web=None, program=None):
    """A record on a row of three."""
    return Record(web or row(3), program or small_program(), goal, events)


def enter(*houses):
    return tuple(("enter", house) for house in houses)


def hear(house, *senders):
    return tuple(("hear", house, sender) for sender in senders)


# All that happens on a row of three up to round 1.
FIRST = (*enter(0, 1, 2), *hear(0, 1), *hear(1, 2, 0), *hear(2, 1))


class Made(unittest.TestCase):
    def test_attributes(self):
        for goal in (0, 1, 40):
            record = told(goal, *FIRST)
            self.assertTrue(record.web == row(3) and record.program == small_program())
            self.assertEqual((record.goal, record.events), (goal, FIRST))
        self.assertEqual(told(3).events, ())

    def test_wrong_goals(self):
        for goal in (-1, 41, 10 ** 20 - 1, *no_integers()):
            for events in ((), FIRST, None, (None,), [FIRST], enter(0) * 3001):
                self.assertIs(raised(Record, row(3), small_program(), goal, events).__class__, NoNumber)

    def wrong(self, index, events):
        error = raised(Record, row(3), small_program(), 40, events)
        self.assertIs(error.__class__, BadRecord)
        self.assertEqual(error.index, index)

    def test_how_many_events(self):
        self.assertEqual(len(told(40, *enter(0) * 3000).events), 3000)
        self.assertEqual(len(told(40, *hear(0, 1) * 3000).events), 3000)
        self.wrong(-1, enter(0) * 3001)
        self.wrong(-1, (None,) * 3001)
        self.wrong(2999, enter(0) * 2999 + (None,))

    def test_no_tuples(self):
        for thing in [*no_tuples(), [*FIRST], {0: FIRST[0]}]:
            self.wrong(-1, thing)

    def test_events_that_are_none(self):
        things = [*no_integers(), *no_tuples(), (), ("enter",), ("enter", 3), ("enter", -1), ["enter", 0], ("enter", 0, 1),
                  ("hear", 0), ("hear", 0, 2), ("hear", 2, 0), ("hear", 1, 1), ("hear", 3, 2), ("hear", 2, 3),
                  ("hear", 0, 1, 0), ["hear", 0, 1], ("Enter", 0), ("", 0), (b"enter", 0), (0, "enter"), ("leave", 0),
                  ("leave", 0, 1), ("Hear", 0, 1), ("", 0, 1), (b"hear", 0, 1), (None, 0, 1),
                  ("enter", False), ("hear", False, 1), ("hear", 0, True), ("hear", True, 0), ("hear", -1, 0)]
        things.extend([("enter", thing) for thing in no_integers()])
        things.extend([("hear", thing, 1) for thing in no_integers()])
        things.extend([("hear", 1, thing) for thing in no_integers()])
        things.extend([(thing, 0) for thing in no_integers()])
        for thing in things:
            self.wrong(0, (thing,))
            self.wrong(2, (*enter(0, 1), thing, *enter(2), thing))
            self.wrong(6, (*FIRST[:6], thing))

    def test_equality(self):
        record = told(2, *FIRST)
        self.assertTrue(record == told(2, *FIRST))
        self.assertFalse(record != told(2, *FIRST))
        self.assertFalse(record == told(3, *FIRST))
        self.assertFalse(record == told(2, *FIRST[:-1]))
        self.assertFalse(record == told(2, *FIRST, program=silent_program()))
        self.assertFalse(record == told(2, *FIRST, web=full(3)))
        for thing in [*no_integers(), *no_tuples(), (record.web, record.program, 2, FIRST)]:
            self.assertFalse(record == thing)
            self.assertTrue(record != thing)


class FirstWrong(unittest.TestCase):
    def test_none(self):
        for goal in (0, 1, 40):
            self.assertIsNone(first_wrong(told(goal)))
            self.assertIsNone(first_wrong(told(goal, *enter(2, 0, 1))))
        self.assertIsNone(first_wrong(told(1, *FIRST, *enter(1, 2, 0))))
        self.assertIsNone(first_wrong(told(2, *enter(0, 1), *hear(0, 1), *enter(0))))

    def test_empty(self):
        self.assertEqual(first_wrong(told(2, *hear(0, 1))), (0, "empty"))
        self.assertEqual(first_wrong(told(2, *enter(0), *hear(0, 1))), (1, "empty"))
        self.assertEqual(first_wrong(told(2, *enter(1), *hear(0, 1), *hear(0, 1))), (2, "empty"))
        self.assertEqual(first_wrong(told(0, *enter(1), *hear(0, 1))), (1, "empty"))
        self.assertEqual(first_wrong(told(1, *FIRST, *enter(1), *hear(0, 1))), (8, "empty"))
        self.assertEqual(first_wrong(told(2, *enter(1), *hear(0, 1), program=silent_program())), (1, "empty"))

    def test_heard_by_who_never_entered(self):
        self.assertIsNone(first_wrong(told(2, *enter(1), *hear(0, 1), *enter(0), *hear(1, 0))))

    def test_over(self):
        self.assertEqual(first_wrong(told(0, *enter(0, 0))), (1, "over"))
        self.assertEqual(first_wrong(told(0, *enter(0, 1, 2, 2, 2))), (3, "over"))
        self.assertEqual(first_wrong(told(1, *FIRST, *enter(0, 1, 2, 1))), (10, "over"))
        self.assertEqual(first_wrong(told(40, *enter(0) * 42, web=Web(1, ()))), (41, "over"))
        self.assertIsNone(first_wrong(told(40, *enter(0) * 41, web=Web(1, ()))))

    def test_early(self):
        self.assertEqual(first_wrong(told(2, *enter(0, 1, 0))), (2, "early"))
        self.assertEqual(first_wrong(told(2, *enter(0, 1, 2), *hear(1, 0), *enter(1))), (4, "early"))
        self.assertEqual(first_wrong(told(2, *FIRST, *enter(0), *enter(1), *hear(0, 1), *enter(0, 1))), (11, "early"))
        # A neighbour that did not say it yet is not heard either.
        self.assertEqual(first_wrong(told(2, *enter(0, 2), *enter(0))), (2, "early"))
        # What lockstep does not say is not waited for.
        self.assertIsNone(first_wrong(told(2, *enter(0, 1, 2, 0, 1, 2), program=silent_program())))

    def test_early_where_two_numbers_of_one_house_are_on_their_way(self):
        events = (*enter(0, 1), *hear(1, 0), *hear(0, 1), *enter(0, 2), *hear(1, 2), *enter(1))
        self.assertIsNone(first_wrong(told(3, *events)))
        # House 0 hears both numbers of house 1, house 2 but the first, and so it can't leave round 1.
        events += (*hear(0, 1), *hear(1, 0), *hear(2, 1), *enter(2), *hear(1, 2))
        self.assertIsNone(first_wrong(told(3, *events, *enter(1), *hear(2, 1), *enter(2))))
        self.assertEqual(first_wrong(told(3, *events, *enter(1), *enter(2))), (len(events) + 1, "early"))
        # Two of house 2 wait for house 1, which hears but the first.
        events = (*enter(0, 1, 2), *hear(2, 1), *enter(2), *hear(1, 0, 2), *hear(0, 1), *enter(1, 0), *hear(1, 0))
        self.assertEqual(on_way(told(3, *events), len(events))[-1], (2, 1, (1,)))
        self.assertEqual(first_wrong(told(3, *events, *enter(1))), (len(events), "early"))
        self.assertIsNone(first_wrong(told(3, *events, *hear(1, 2), *enter(1))))

    def test_apart(self):
        self.assertEqual(first_wrong(told(2, *enter(0, 0), program=silent_program())), (1, "apart"))
        self.assertEqual(first_wrong(told(3, *enter(0, 1, 2, 1, 1), program=silent_program())), (4, "apart"))
        self.assertEqual(first_wrong(told(3, *enter(0, 1, 2, 1, 0, 1, 2), program=silent_program())), (5, "apart"))
        self.assertIsNone(first_wrong(told(3, *enter(0, 1, 2, 1, 0, 2, 0), program=silent_program())))

    def test_the_first_of_the_words(self):
        # The second enter of house 0 is early and apart.
        self.assertEqual(first_wrong(told(2, *enter(0, 0))), (1, "early"))
        self.assertEqual(first_wrong(told(0, *enter(0, 0), program=silent_program())), (1, "over"))
        self.assertEqual(first_wrong(told(1, *enter(0, 1, 2), *hear(0, 1), *enter(0, 0))), (5, "over"))

    def test_the_first_event(self):
        self.assertEqual(first_wrong(told(2, *enter(0, 1, 0), *hear(2, 1), *hear(2, 1), *enter(0))), (2, "early"))


class Moments(unittest.TestCase):
    def test_by_hand(self):
        record = told(2, *enter(1), *hear(0, 1), *enter(0, 2), *hear(1, 2))
        self.assertEqual([entered(record, at) for at in range(6)],
                         [(0, 0, 0), (0, 1, 0), (0, 1, 0), (1, 1, 0), (1, 1, 1), (1, 1, 1)])
        self.assertEqual(cells_then(record, 0), (None, None, None))
        self.assertEqual(cells_then(record, 3), ((0,), (1,), None))
        self.assertEqual([on_way(record, at) for at in range(6)], [
            (), ((1, 0, (1,)), (1, 2, (1,))), ((1, 2, (1,)),), ((0, 1, (0,)), (1, 2, (1,))),
            ((0, 1, (0,)), (1, 2, (1,)), (2, 1, (2,))), ((0, 1, (0,)), (1, 2, (1,)))])

    def test_numbers_stay_in_order(self):
        record = told(3, *enter(2, 2, 2))
        self.assertEqual(on_way(record, 3), ((2, 1, (2, 1, 0)),))
        self.assertEqual(cells_then(record, 3), (None, None, (0,)))
        self.assertEqual(on_way(told(2, *enter(2, 2, 2)), 3), ((2, 1, (2, 1)),))

    def test_early_and_apart_ones_can_be_done(self):
        record = told(3, *enter(0, 0, 0, 0))
        self.assertEqual(first_wrong(record), (1, "early"))
        self.assertEqual(entered(record, 4), (4, 0, 0))
        self.assertEqual(len(causes(record)), 4)

    def test_what_cant_be_done_and_what_stands_behind_it(self):
        for events in ((*enter(0, 1), *hear(2, 0, 1)[1:], *hear(2, 1), *enter(2)),
                       (*enter(0, 1), *hear(2, 1), *enter(0, 0), *enter(2))):
            record = told(1, *events)
            done = 3 if events[3][0] == "hear" else 4
            for call in (entered, cells_then, on_way):
                self.assertIsNone(raised(call, record, done))
                for at in range(done + 1, 8):
                    self.assertIs(raised(call, record, at).__class__, NoMoment)
            self.assertEqual((len(causes(record)), len(vectors(record))), (done, done))
        record = told(1, *hear(0, 1), *enter(0, 1, 2))
        self.assertEqual(entered(record, 0), (0, 0, 0))
        self.assertIs(raised(entered, record, 1).__class__, NoMoment)
        self.assertEqual((causes(record), vectors(record), longest_chain(record)), ((), (), 0))

    def test_no_moments(self):
        record = told(2, *FIRST)
        for call in (entered, cells_then, on_way):
            self.assertIsNone(raised(call, record, 7))
            for at in (8, -1, 10 ** 20 - 1, *no_integers()):
                self.assertIs(raised(call, record, at).__class__, NoMoment)


class Causes(unittest.TestCase):
    def test_by_hand(self):
        record = told(2, *FIRST, *enter(1))
        self.assertEqual(causes(record), ((), (), (), (0, 1), (1, 2), (0, 4), (1, 2), (5,)))
        self.assertEqual(vectors(record), ((1, 0, 0), (0, 1, 0), (0, 0, 1), (2, 1, 0), (0, 2, 1), (1, 3, 1),
                                           (0, 1, 2), (1, 4, 1)))
        self.assertEqual(longest_chain(record), 4)

    def test_the_enter_that_said_it(self):
        record = told(3, *enter(2, 2), *hear(1, 2), *hear(1, 2))
        self.assertEqual(causes(record), ((), (0,), (0,), (1, 2)))
        self.assertEqual(vectors(record), ((0, 0, 1), (0, 0, 2), (0, 1, 1), (0, 2, 2)))

    def test_none(self):
        self.assertEqual((causes(told(2)), vectors(told(2)), longest_chain(told(2))), ((), (), 0))
        self.assertEqual(longest_chain(told(2, *enter(0))), 1)


def any_record(chance, course):
    """A record of a run with some events otherwise."""
    events = list(recorded(course, [chance.randrange(99) for _ in range(300)]).events)
    web = course.keeper.web
    for _ in range(chance.randint(0, 3)):
        at, house = chance.randrange(len(events) + 1), chance.randrange(web.many)
        change = chance.randrange(4)
        if change == 0:
            events.insert(at, ("enter", house))
        elif change == 1 and web.many > 1:
            events.insert(at, ("hear", house, chance.choice(neighbours(web, house))))
        elif change == 2:
            del events[at:at + 1]
        else:
            events[at - 1:at + 1] = events[at - 1:at + 1][::-1]
    return Record(web, course.program, course.goal, tuple(events))


class SecondAccount(unittest.TestCase):
    def check(self, record):
        tale, wrong = model.Tale(record), None
        many = record.web.many
        for index, event in enumerate((*record.events, None)):
            rows = [tale.entered(house) for house in range(many)]
            self.assertEqual(entered(record, index), tuple(rows))
            self.assertEqual(cells_then(record, index), tuple(
                [tale.rows[n - 1][house] if n else None for house, n in enumerate(rows)]))
            ways = [(a, b, tuple(item[3] for item in tale.on_way(a, b))) for a in range(many)
                    for b in neighbours(record.web, a)]
            self.assertEqual(on_way(record, index), tuple(way for way in ways if way[2]))
            word = event and tale.wrong(event)
            if word and wrong is None:
                wrong = (index, word)
            if event is None or word in ("empty", "over"):
                break
            tale.do(event)
        self.assertEqual(first_wrong(record), wrong)
        done = len(tale.done)
        for call in (entered, cells_then, on_way):
            self.assertIs(raised(call, record, done + 1).__class__, NoMoment)
        self.assertEqual(causes(record), tuple(tale.causes))
        self.assertEqual(vectors(record), tuple(tale.vector(index) for index in range(done)))
        chains = []
        for index in range(done):
            chains.append(1 + max([chains[k] for k in tale.before[index] if k != index], default=0))
        self.assertEqual(longest_chain(record), max(chains, default=0))
        return wrong and wrong[1]

    def test_runs_and_runs_with_events_otherwise(self):
        chance, seen = random.Random(2), {}
        for at, keeper in enumerate(keepers()):
            if keeper.web.many <= 6:
                for goal in (0, 1, 2):
                    for program in (programs()[at % 4], programs()[(at + 1) % 4]):
                        word = self.check(any_record(chance, Course(program, keeper, goal)))
                        seen[word] = seen.get(word, 0) + 1
        self.assertEqual(set(seen), {None, "empty", "over", "early", "apart"})

    def test_on_larger_webs(self):
        for web in (star(12), row(40), full(9)):
            chance = random.Random(web.many)
            events = []
            for _ in range(120):
                house = chance.randrange(web.many)
                events.append(("enter", house) if chance.random() < 0.6
                              else ("hear", house, chance.choice(neighbours(web, house))))
            tale = model.Tale(Record(web, quiet_program(), 9, ()))
            kept = []
            for event in events:
                if tale.wrong(event) not in ("empty", "over"):
                    tale.do(event)
                    kept.append(event)
            self.check(Record(web, quiet_program(), 9, tuple(kept)))


class Recorded(unittest.TestCase):
    def events_of(self, course, choices):
        """The events of a run, counted apart."""
        done, glasses = model.run(course, choices)
        events = []
        for at, move in enumerate(done):
            house = move[-1]
            if move[0] == "take":
                word = [way[2][0] for way in glasses[at][1] if way[:2] == move[1:]][0]
                if word[0] == "said":
                    events.append(("hear", house, move[1]))
            last = [-1 if glass[0][house][0] == "asleep" else glass[0][house][1] for glass in glasses[at:at + 2]]
            events.extend([("enter", house)] * (last[1] - last[0]))
        return tuple(events)

    def test_runs_under_each_keeper(self):
        chance = random.Random(31)
        for at, keeper in enumerate(keepers()):
            for choices in ((), [chance.randrange(50) for _ in range(400)], (7,) * 30):
                course = Course(programs()[at % 4], keeper, (2, 3, 1, 0, 4)[at % 5])
                record = recorded(course, choices)
                self.assertTrue(record.web == keeper.web and record.program == course.program)
                self.assertEqual(record.goal, course.goal)
                self.assertEqual(record.events, self.events_of(course, choices))
                self.assertIsNone(first_wrong(record))
                self.assertEqual(on_way(record, len(record.events)), ())
                rows, _ = model.rounds(keeper.web, course.program, course.goal)
                self.assertEqual(cells_then(record, len(record.events)), tuple(rows[-1]))
                self.assertEqual(entered(record, len(record.events)), (course.goal + 1,) * keeper.web.many)

    def test_choices_tell_the_way(self):
        course = Course(small_program(), alpha(row(3)), 1)
        self.assertEqual(recorded(course, ()).events[:4], (*enter(0, 1, 2), ("hear", 1, 0)))
        self.assertEqual(recorded(course, (2,)).events[:3], enter(2, 0, 1))
        # Three moves can be next behind the first one: start 0, start 1, take 2 1.
        self.assertEqual(recorded(course, (2, 2)).events[:2], (("enter", 2), ("hear", 1, 2)))
        self.assertEqual(recorded(course, (5, 4)).events[:2], enter(2, 1))
        self.assertEqual(recorded(course, [5, 3 * 10 ** 18]).events[:2], enter(2, 0))

    def test_what_is_heard_is_what_lockstep_says(self):
        course = Course(quiet_program(), gamma(grown(8, 4, 5), 2), 4)
        _, said = model.rounds(course.keeper.web, course.program, 4)
        record = recorded(course, [3, 1, 4, 1, 5] * 200)
        for at, event in enumerate(record.events):
            if event[0] == "hear":
                way = [way for way in on_way(record, at) if way[:2] == (event[2], event[1])][0]
                rounds_left = [pairs[event[2]][event[1]] for pairs in said if event[1] in pairs[event[2]]]
                heard = record.events[:at].count(event)
                self.assertEqual(way[2][0], rounds_left[heard])

    def test_the_longest_run(self):
        course = Course(small_program(), beta(full(8)), 40)
        record = recorded(course, [11, 5, 8] * 2000)
        self.assertEqual(len(record.events), 8 * 41 + 40 * 56)
        self.assertIsNone(first_wrong(record))

    def test_wrong_choices(self):
        course = Course(small_program(), beta(row(3)), 1)
        for thing in no_tuples():
            if not isinstance(thing, list):
                wrong = raised(recorded, course, thing)
                self.assertIs(wrong.__class__, NoChoices)
                self.assertEqual(wrong.index, -1)
        for thing in (-1, *no_integers()):
            wrong = raised(recorded, course, [5] * 1000 + [thing])
            self.assertIs(wrong.__class__, NoChoices)
            self.assertEqual(wrong.index, 1000)

    def test_alone(self):
        for keeper in (alpha(Web(1, ())), beta(Web(1, ())), gamma(Web(1, ()), 2)):
            self.assertEqual(recorded(Course(small_program(), keeper, 40), ()).events, enter(0) * 41)
        self.assertEqual(recorded(Course(silent_program(), beta(ring(4)), 0), (1, 1, 0)).events, enter(1, 2, 0, 3))


class Large(unittest.TestCase):
    def test_three_thousand_events_on_forty_houses(self):
        web = full(40)
        events = enter(*range(40)) * 42 + tuple(("hear", k % 40, (k + 1) % 40) for k in range(1320))
        record = Record(web, small_program(), 40, events)
        self.assertEqual(len(events), 3000)
        self.assertEqual(first_wrong(record), (40, "early"))
        self.assertEqual(entered(record, 40 * 41), (41,) * 40)
        self.assertIs(raised(entered, record, 40 * 41 + 1).__class__, NoMoment)
        self.assertEqual(cells_then(record, 1640), ((0,),) * 40)
        self.assertEqual(on_way(record, 1640)[0], (0, 1, (0,) * 40))
        self.assertEqual(longest_chain(record), 41)
        self.assertEqual(vectors(record)[1639], (0,) * 39 + (41,))


if __name__ == "__main__":
    unittest.main()
