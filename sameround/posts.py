"""Posts: live houses, which tell their words by letters."""

from sameround.errors import NoDeed, NoHouse, NoPast, NoState, NotAsleep, NoWord
from sameround.keepers import is_neighbour
from sameround.kinds import is_number_below
from sameround.links import NUMBERS, Incoming, Outgoing, incoming_of, is_pair, outgoing_of
from sameround.rows import is_row, sealed, unsealed
from sameround.states import begun, has_form_of_state, heard, is_word, started
from sameround.webs import neighbours

MOST_ITEMS = 20


class Post:
    """A live house of a course, with the ends of the links from and to its neighbours."""

    def __init__(self, course, number):
        self._state = begun(course, number)
        self._course = course
        self._number = number
        beside = neighbours(course.keeper.web, number)
        self._outs = {other: Outgoing() for other in beside}
        self._ins = {other: Incoming() for other in beside}

    def state(self):
        """The state of the house."""
        return self._state

    def past(self):
        """The triple of its state, and of the states of the ends of its links, by neighbours."""
        outs = [link.state() for link in self._outs.values()]
        ins = [link.state() for link in self._ins.values()]
        return (self._state, tuple(outs), tuple(ins))

    def letter(self, to):
        """The sealed row of its letter to a neighbour."""
        if not is_neighbour(self._course.keeper.web, self._number, to):
            raise NoHouse()
        items = tuple(waiting_for(self, to)[:MOST_ITEMS])
        return sealed(("letter", self._number, to, taken_from(self, to), items))

    def deed(self, thing):
        """Start, or hear a letter; tell None, or "none", "old" or "new"."""
        if not is_post_deed(thing):
            raise NoDeed()
        if thing[0] == "start":
            self._start()
            return None
        letter = letter_in(self, thing[1])
        return "none" if letter is None else self._hear(letter)

    def copy(self):
        """Another Post with this past."""
        other = Post(self._course, self._number)
        other._take_over(self)
        return other

    def _take_over(self, other):
        """Get the past of another Post of the same house."""
        self._state = other._state
        self._outs = {house: link.copy() for house, link in other._outs.items()}
        self._ins = {house: link.copy() for house, link in other._ins.items()}

    def _start(self):
        """Do the start of the house."""
        try:
            state, out = started(self._course, self._number, self._state)
        except NotAsleep:
            raise NoDeed() from None
        self._go_to(state, out)

    def _hear(self, letter):
        """Hear a letter for the house; tell "none" for one with a word that is none then."""
        _, sender, _, taken, items = letter
        link = self._ins[sender].copy()
        words = []
        for number, word in items:
            words.extend(link.take(number, word))
        try:
            state, out = heard_all(self._course, self._number, self._state, sender, words)
        except NoWord:
            return "none"
        before = self.past()
        self._outs[sender].known(taken)
        self._ins[sender] = link
        self._go_to(state, out)
        return "old" if self.past() == before else "new"

    def _go_to(self, state, out):
        """Be in the state behind a deed, and put into the links what is sent then."""
        self._state = state
        for other, word in out:
            self._outs[other].put(word)


def waiting_for(post, house):
    """The list of the pairs of a number and a word that wait for a neighbour of a post."""
    return post._outs[house].waiting()


def taken_from(post, house):
    """How many words a post took from a neighbour."""
    return post._ins[house].taken()


def is_post_deed(thing):
    """Whether a thing is a deed of a post, by its form."""
    if not isinstance(thing, tuple) or not thing or not isinstance(thing[0], str):
        return False
    if thing[0] == "start":
        return len(thing) == 1
    return thing[0] == "hear" and len(thing) == 2 and is_row(thing[1])


def letter_in(post, row):
    """The letter for a post of which a row is sealed, None if it is sealed of none."""
    told = unsealed(row)
    return told[0] if told and is_letter(post, told[0]) else None


def is_letter(post, thing):
    """Whether a thing is a letter for a post."""
    if not isinstance(thing, tuple) or len(thing) != 5 or thing[0] != "letter":
        return False
    _, sender, to, taken, items = thing
    # A flag is equal to a number, but is none.
    if not is_neighbour(post._course.keeper.web, post._number, sender) or isinstance(to, bool):
        return False
    if to != post._number or not is_number_below(post._outs[sender].many_put() + 1, taken):
        return False
    return are_items(items)


def are_items(thing):
    """Whether a thing is a tuple of not too many pairs of a number and a word."""
    if not isinstance(thing, tuple) or len(thing) > MOST_ITEMS:
        return False
    return all([is_pair(item) and is_number_below(NUMBERS, item[0]) and is_word(item[1]) for item in thing])


def heard_all(course, number, state, sender, words):
    """The pair of the state of a house behind these words, and of the list of all that it sends."""
    sent = []
    for word in words:
        state, out = heard(course, number, state, sender, word)
        sent.extend(out)
    return (state, sent)


def outgoing_of_words(state):
    """The Outgoing with a state, of words alone."""
    link = outgoing_of(state)
    if not all([is_word(thing) for thing in state[1]]):
        raise NoState()
    return link


def incoming_of_words(state):
    """The Incoming with a state, of words alone."""
    link = incoming_of(state)
    if not all([is_word(pair[1]) for pair in state[1]]):
        raise NoState()
    return link


def post_of(course, number, past):
    """The Post with a past."""
    post = Post(course, number)
    if not isinstance(past, tuple) or len(past) != 3 or not has_form_of_state(course, past[0]):
        raise NoPast()
    state, outs, ins = past
    beside = neighbours(course.keeper.web, number)
    for links in (outs, ins):
        if not isinstance(links, tuple) or len(links) != len(beside):
            raise NoPast()
    try:
        post._outs = {house: outgoing_of_words(link) for house, link in zip(beside, outs)}
        post._ins = {house: incoming_of_words(link) for house, link in zip(beside, ins)}
    except NoState:
        raise NoPast() from None
    post._state = state
    return post
