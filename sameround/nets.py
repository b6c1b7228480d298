"""The net: houses that last, letters in a bag, and all that can go wrong with both."""

from sameround.disks import Disk
from sameround.errors import BadDeeds, NoCut, NoDeed, NoHouse, NoNumber
from sameround.kinds import is_number_below
from sameround.posts import taken_from, waiting_for
from sameround.rows import BYTES, is_row, unsealed
from sameround.savings import SavedHouse

MOST_TRIPS = 1000


class Net:
    """The houses of a course, a disk for each, and a bag of letters on their way."""

    def __init__(self, course):
        self._course = course
        self._disks = [Disk() for _ in range(course.keeper.web.many)]
        self._houses = [SavedHouse(course, number, disk) for number, disk in enumerate(self._disks)]
        self._letters = []

    def house(self, number):
        """The SavedHouse with a number."""
        if not is_number_below(len(self._houses), number):
            raise NoHouse()
        return self._houses[number]

    def disk(self, number):
        """A copy of the disk of a house."""
        if not is_number_below(len(self._disks), number):
            raise NoHouse()
        return self._disks[number].copy()

    def bag(self):
        """The list of the pairs (to, row) of letters on their way."""
        return list(self._letters)

    def glass(self):
        """The glass of what stands now: all states, and all words that are not taken yet."""
        states = tuple([house.state() for house in self._houses])
        ways = []
        for one, other in both_ways(self._course.keeper.web):
            taken = taken_from(self._houses[other], one)
            words = [word for number, word in waiting_for(self._houses[one], other) if number >= taken]
            if words:
                ways.append((one, other, tuple(words)))
        return (states, tuple(ways))

    def deed(self, thing):
        """Do a deed; tell what it returned, or None."""
        if not isinstance(thing, tuple) or not thing or not isinstance(thing[0], str):
            raise NoDeed()
        if thing[0] not in ACTIONS or len(thing) != LENGTHS[thing[0]]:
            raise NoDeed()
        action = ACTIONS[thing[0]]
        parts = thing[1:]
        return action(self, *parts)


def both_ways(web):
    """The ascending list of the pairs of neighbours, each in both orders."""
    return sorted(list(web.ties) + [(high, low) for low, high in web.ties])


def house_in(net, number):
    """The house of a net that a deed names."""
    if not is_number_below(len(net._houses), number):
        raise NoDeed()
    return net._houses[number]


def letter_in_bag(net, at):
    """The pair (to, row) in the bag that a deed names."""
    if not is_number_below(len(net._letters), at):
        raise NoDeed()
    return net._letters[at]


def do_start(net, number):
    """Start a house."""
    return house_in(net, number).deed(("start",))


def do_keep(net, number):
    """Let a house write its past."""
    return house_in(net, number).keep()


def do_post(net, number, to):
    """Put the letter of a house to a neighbour into the bag."""
    house = house_in(net, number)
    try:
        row = house.letter(to)
    except NoHouse:
        raise NoDeed() from None
    net._letters.append((to, row))


def do_bring(net, at):
    """Take a row out of the bag, and let its house hear it."""
    to, row = letter_in_bag(net, at)
    del net._letters[at]
    return net._houses[to].deed(("hear", row))


def do_lose(net, at):
    """Take a row out of the bag."""
    letter_in_bag(net, at)
    del net._letters[at]


def do_double(net, at):
    """Put a row of the bag in once more."""
    net._letters.append(letter_in_bag(net, at))


def do_spoil(net, at, place, byte):
    """Put another byte into a row of the bag, which must not come to be sealed by that."""
    to, row = letter_in_bag(net, at)
    if not is_number_below(len(row), place) or not is_number_below(BYTES, byte):
        raise NoDeed()
    spoilt = row[:place] + (byte,) + row[place + 1:]
    if spoilt != row and unsealed(spoilt) != ():
        raise NoDeed()
    net._letters[at] = (to, spoilt)


def do_send(net, to, row):
    """Put a row that is sealed of nothing into the bag."""
    house_in(net, to)
    if not is_row(row) or unsealed(row) != ():
        raise NoDeed()
    net._letters.append((to, row))


def do_cut(net, number, kept):
    """Cut the disk of a house, and make the house anew of it."""
    house_in(net, number)
    disk = net._disks[number]
    try:
        disk.cut(kept)
    except NoCut:
        raise NoDeed() from None
    net._houses[number] = SavedHouse(net._course, number, disk)


ACTIONS = {
    "start": do_start,
    "keep": do_keep,
    "post": do_post,
    "bring": do_bring,
    "lose": do_lose,
    "double": do_double,
    "spoil": do_spoil,
    "send": do_send,
    "cut": do_cut,
}
LENGTHS = {"start": 2, "keep": 2, "post": 3, "bring": 2, "lose": 2, "double": 2, "spoil": 4, "send": 3, "cut": 3}


def led_by(net, deeds):
    """The list of what deeds returned that are done one behind the other."""
    if not isinstance(deeds, (list, tuple)):
        raise BadDeeds(-1)
    told = []
    for index, thing in enumerate(deeds):
        try:
            told.append(net.deed(thing))
        except NoDeed:
            raise BadDeeds(index) from None
    return told


def exchange(net, one, other):
    """Let two neighbours hear each other as long as words wait for the second."""
    first = net._houses[one]
    second = net._houses[other]
    while waiting_for(first, other):
        second.deed(("hear", first.letter(other)))
        first.deed(("hear", second.letter(one)))


def round_trip(net):
    """Start all that are asleep, and let all neighbours hear each other, past the bag."""
    for house in net._houses:
        if house.state()[0] == "asleep":
            house.deed(("start",))
    for one, other in both_ways(net._course.keeper.web):
        exchange(net, one, other)


def is_settled(net):
    """Whether all houses of a net are over, and no word waits."""
    if not all([house.state()[0] == "over" for house in net._houses]):
        return False
    return not any([waiting_for(net._houses[one], other) for one, other in both_ways(net._course.keeper.web)])


def settle(net, most):
    """Do round trips until all is over, or so many; tell how many there were."""
    if not is_number_below(MOST_TRIPS + 1, most):
        raise NoNumber()
    many = 0
    while many < most and not is_settled(net):
        round_trip(net)
        many += 1
    return many
