"""Records: what strangers tell of rounds and of numbers that were heard."""

from sameround.errors import BadRecord, NoMoment, NoNumber
from sameround.glass import run_through
from sameround.keepers import is_neighbour
from sameround.kinds import is_number_below
from sameround.lockstep import MOST_ROUNDS, round_by_round
from sameround.webs import neighbours

MOST_EVENTS = 3000


class Record:
    """Events on a web, told in order: rounds that houses entered, and numbers that they heard."""

    def __init__(self, web, program, goal, events):
        if not is_number_below(MOST_ROUNDS + 1, goal):
            raise NoNumber()
        if not isinstance(events, tuple) or len(events) > MOST_EVENTS:
            raise BadRecord(-1)
        wrong = first_no_event(web, events)
        if wrong is not None:
            raise BadRecord(wrong)
        self.web = web
        self.program = program
        self.goal = goal
        self.events = events
        # Kept because each question about the record asks for them.
        self._cells, self._said = round_by_round(web, program, min(goal, most_enters(web, events)))

    def __eq__(self, other):
        return (isinstance(other, Record) and self.web == other.web and self.program == other.program
                and self.goal == other.goal and self.events == other.events)


class Telling:
    """A record that is told event by event, as far as its events can be done."""

    def __init__(self, record):
        self.record = record
        self.many_told = 0
        # How many rounds each house entered, and the index of its last event.
        self.enters = [0] * record.web.many
        self.lasts = [None] * record.web.many
        # By sender and house the triples (round, number, index of the enter) on their way, in order.
        self.ways = {}
        # By sender and house the round of the last number that was heard.
        self.heard_of = {}

    def hindrance(self, event):
        """The word for an event that can't be done now, None for one that can."""
        if event[0] == "hear":
            return None if (event[2], event[1]) in self.ways else "empty"
        return "over" if self.enters[event[1]] > self.record.goal else None

    def fault(self, event):
        """The word for an event that is wrong now, None for one that is right."""
        word = self.hindrance(event)
        if word is not None or event[0] == "hear":
            return word
        if self.is_early(event[1]):
            return "early"
        return "apart" if self.comes_apart(event[1]) else None

    def is_early(self, house):
        """Whether a house lacks something that lockstep says to it in the round in which it is."""
        at = self.enters[house] - 1
        if at < 0:
            return False
        for sender in neighbours(self.record.web, house):
            # A house says at most one number a round, so a later one is behind that of this round.
            heard_up_to = self.heard_of.get((sender, house), -1)
            if heard_up_to < at and house in [other for other, _ in self.record._said[at][sender]]:
                return True
        return False

    def comes_apart(self, house):
        """Whether one more enter of a house brings it two rounds away from a neighbour."""
        entered_then = self.enters[house] + 1
        apart = [abs(entered_then - self.enters[other]) for other in neighbours(self.record.web, house)]
        return max(apart, default=0) > 1

    def causes_now(self, event):
        """The lot of the indexes of what causes an event directly that is done now."""
        direct = [] if self.lasts[event[1]] is None else [self.lasts[event[1]]]
        if event[0] == "hear":
            direct.append(self.ways[(event[2], event[1])][0][2])
        return tuple(sorted(direct))

    def do_event(self, event):
        """Do an event that can be done."""
        if event[0] == "enter":
            self.enter(event[1])
        else:
            self.hear(event[1], event[2])
        self.lasts[event[1]] = self.many_told
        self.many_told += 1

    def enter(self, house):
        """Let a house enter its next round, and say what lockstep says there."""
        at = self.enters[house]
        self.enters[house] = at + 1
        if at < self.record.goal:
            for other, number in self.record._said[at][house]:
                self.ways.setdefault((house, other), []).append((at, number, self.many_told))

    def hear(self, house, sender):
        """Let a house hear the first number that is on its way from another one."""
        waiting = self.ways[(sender, house)]
        self.heard_of[(sender, house)] = waiting[0][0]
        if len(waiting) == 1:
            del self.ways[(sender, house)]
        else:
            self.ways[(sender, house)] = waiting[1:]


def is_event(web, thing):
    """Whether a thing is an event on a web."""
    if not isinstance(thing, tuple) or not 2 <= len(thing) <= 3 or not isinstance(thing[0], str):
        return False
    if not is_number_below(web.many, thing[1]):
        return False
    if thing[0] == "enter":
        return len(thing) == 2
    return thing[0] == "hear" and len(thing) == 3 and is_neighbour(web, thing[1], thing[2])


def first_no_event(web, things):
    """The index of the first thing that is no event, None without."""
    for index, thing in enumerate(things):
        if not is_event(web, thing):
            return index
    return None


def most_enters(web, events):
    """The most enters of one house."""
    enters = [0] * web.many
    for event in events:
        if event[0] == "enter":
            enters[event[1]] += 1
    return max(enters)


def first_wrong(record):
    """The pair of the index and the word of the first event that is wrong, None without."""
    telling = Telling(record)
    for index, event in enumerate(record.events):
        word = telling.fault(event)
        if word is not None:
            return (index, word)
        telling.do_event(event)
    return None


def told_to(record, at):
    """The Telling of a record behind so many events."""
    if not is_number_below(len(record.events) + 1, at):
        raise NoMoment()
    telling = Telling(record)
    for event in record.events[:at]:
        if telling.hindrance(event) is not None:
            raise NoMoment()
        telling.do_event(event)
    return telling


def entered(record, at):
    """The tuple of how many rounds each house entered behind so many events."""
    return tuple(told_to(record, at).enters)


def cells_then(record, at):
    """The tuple of what lockstep tells for the round that each house entered last, or None."""
    telling = told_to(record, at)
    return tuple([record._cells[enters - 1][house] if enters > 0 else None
                  for house, enters in enumerate(telling.enters)])


def on_way(record, at):
    """The ascending tuple of the triples (from, to, numbers) of what is on its way then."""
    telling = told_to(record, at)
    ways = []
    for sender, house in sorted(list(telling.ways)):
        numbers = [waiting[1] for waiting in telling.ways[(sender, house)]]
        ways.append((sender, house, tuple(numbers)))
    return tuple(ways)


def causes(record):
    """For each event that can be done the lot of the indexes of those that cause it directly."""
    telling = Telling(record)
    direct = []
    for event in record.events:
        if telling.hindrance(event) is not None:
            break
        direct.append(telling.causes_now(event))
        telling.do_event(event)
    return tuple(direct)


def vectors(record):
    """For each event that can be done how many events of each house are it, or cause it."""
    rows = []
    for index, direct in enumerate(causes(record)):
        counts = [0] * record.web.many
        # Of one house's events each causes the next one, so the greatest count has all the others.
        for cause in direct:
            counts = [max(one, other) for one, other in zip(counts, rows[cause])]
        counts[record.events[index][1]] += 1
        rows.append(tuple(counts))
    return tuple(rows)


def longest_chain(record):
    """The most events that can be done of which each but the first is caused by the one ahead."""
    lengths = []
    for direct in causes(record):
        lengths.append(1 + max([lengths[cause] for cause in direct], default=0))
    return max(lengths, default=0)


def recorded(course, choices):
    """The Record of a run by these choices."""
    run = run_through(course, choices)
    return Record(course.keeper.web, course.program, course.goal, tuple(run.events))
