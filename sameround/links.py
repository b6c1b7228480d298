"""Links: what is put at one end is taken at the other, in order, each once."""

from sameround.errors import NoNumber, NoState
from sameround.kinds import is_number_below, is_plain_int

NUMBERS = 2 ** 32
HELD_AHEAD = 1000


class Outgoing:
    """The end of a link at which things are put; they wait until they are known to be taken."""

    def __init__(self):
        self._known_taken = 0
        self._things = []

    def put(self, thing):
        """Put a thing behind the others; tell its number."""
        self._things.append(thing)
        return self.many_put() - 1

    def known(self, number):
        """Let go of the things of lesser numbers; tell how many these are."""
        if not is_number_below(self.many_put() + 1, number):
            raise NoNumber()
        let_go = max(0, number - self._known_taken)
        self._things = self._things[let_go:]
        self._known_taken += let_go
        return let_go

    def waiting(self):
        """The list of the pairs (number, thing) of those that are not known to be taken."""
        return list(enumerate(self._things, start=self._known_taken))

    def many_put(self):
        """How many things were put."""
        return self._known_taken + len(self._things)

    def state(self):
        """The pair of how many are known to be taken, and the tuple of those that wait."""
        return (self._known_taken, tuple(self._things))

    def copy(self):
        """Another one with this state."""
        other = Outgoing()
        other._known_taken = self._known_taken
        other._things = list(self._things)
        return other


class Incoming:
    """The end of a link at which things are taken, in order, each once."""

    def __init__(self):
        self._many_taken = 0
        self._kept = {}

    def take(self, number, thing):
        """Hear a thing with its number; tell the list of the things that are taken now."""
        if not is_number_below(NUMBERS, number):
            raise NoNumber()
        if self._many_taken <= number < self._many_taken + HELD_AHEAD and number not in self._kept:
            self._kept[number] = thing
        now = []
        while self._many_taken in self._kept:
            now.append(self._kept.pop(self._many_taken))
            self._many_taken += 1
        return now

    def taken(self):
        """How many things are taken."""
        return self._many_taken

    def held(self):
        """The lot of the numbers of the things that are held ahead of a gap."""
        return tuple(sorted(list(self._kept)))

    def state(self):
        """The pair of how many are taken, and the ascending tuple of the pairs that are held."""
        return (self._many_taken, tuple([(number, self._kept[number]) for number in self.held()]))

    def copy(self):
        """Another one with this state."""
        other = Incoming()
        other._many_taken = self._many_taken
        other._kept = dict(self._kept)
        return other


def is_thing(thing):
    """Whether it is a tuple of integers, flags, strings, None, and such tuples."""
    if not isinstance(thing, tuple):
        return False
    waiting = [thing]
    while waiting:
        # A list of what is left, because things may be nested deeper than calls.
        inner = waiting.pop()
        for part in inner:
            if isinstance(part, tuple):
                waiting.append(part)
            elif part is not None and not isinstance(part, (int, str)):
                return False
    return True


def is_pair(thing):
    """Whether it is a tuple of two."""
    return isinstance(thing, tuple) and len(thing) == 2


def is_outgoing_state(thing):
    """Whether it is a pair of a number and a tuple of things."""
    if not is_pair(thing) or not is_number_below(NUMBERS, thing[0]) or not isinstance(thing[1], tuple):
        return False
    return all([is_thing(part) for part in thing[1]])


def is_incoming_state(thing):
    """Whether it is a pair of a number and a tuple of pairs that may be held then."""
    if not is_pair(thing) or not is_number_below(NUMBERS, thing[0]) or not isinstance(thing[1], tuple):
        return False
    ahead = thing[0]
    for pair in thing[1]:
        if not is_pair(pair) or not is_plain_int(pair[0]) or not is_thing(pair[1]):
            return False
        if not ahead < pair[0] < thing[0] + HELD_AHEAD:
            return False
        ahead = pair[0]
    return True


def outgoing_of(state):
    """The Outgoing with a state."""
    if not is_outgoing_state(state):
        raise NoState()
    known_taken, things = state
    link = Outgoing()
    link._known_taken = known_taken
    link._things = list(things)
    return link


def incoming_of(state):
    """The Incoming with a state."""
    if not is_incoming_state(state):
        raise NoState()
    many_taken, pairs = state
    link = Incoming()
    link._many_taken = many_taken
    link._kept = dict(pairs)
    return link
