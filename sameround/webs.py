"""Webs: houses, and the ties between them."""

from sameround.errors import BadWeb, NoHouse
from sameround.kinds import is_number_below, is_plain_int

MOST_HOUSES = 40


class Web:
    """Houses with the numbers below many, and ties, an ascending tuple of pairs of them."""

    def __init__(self, many, ties):
        if not is_plain_int(many) or not 1 <= many <= MOST_HOUSES:
            raise BadWeb("many")
        if not isinstance(ties, tuple):
            raise BadWeb(-1)
        wrong = first_wrong_tie(many, ties)
        if wrong is not None:
            raise BadWeb(wrong)
        beside = houses_beside(many, ties)
        if None in steps_from(beside, 0):
            raise BadWeb("joined")
        self.many = many
        self.ties = ties
        # Kept because all that goes along ties asks for it, again and again.
        self._beside = beside

    def __eq__(self, other):
        return isinstance(other, Web) and self.many == other.many and self.ties == other.ties


def is_tie(many, thing):
    """Whether a thing is a pair of houses, the lesser one first."""
    if not isinstance(thing, tuple) or len(thing) != 2:
        return False
    low, high = thing
    return is_number_below(many, low) and is_number_below(many, high) and low < high


def first_wrong_tie(many, ties):
    """The number of the first tie that is none or not greater than the one ahead, or None."""
    ahead = ()
    for at, tie in enumerate(ties):
        if not is_tie(many, tie) or tie <= ahead:
            return at
        ahead = tie
    return None


def houses_beside(many, ties):
    """The tuple of the lots of the houses tied to each house."""
    beside = [[] for _ in range(many)]
    for low, high in ties:
        beside[low].append(high)
        beside[high].append(low)
    return tuple([tuple(sorted(houses)) for houses in beside])


def steps_from(beside, start):
    """For each house the fewest ties on a way from the start to it, None without a way."""
    steps = [None] * len(beside)
    steps[start] = 0
    reached = [start]
    while reached:
        coming = []
        for house in reached:
            for other in beside[house]:
                if steps[other] is None:
                    steps[other] = steps[house] + 1
                    coming.append(other)
        reached = coming
    return steps


def neighbours(web, house):
    """The lot of the houses tied to a house."""
    if not is_number_below(web.many, house):
        raise NoHouse()
    return web._beside[house]


def far(web, one, other):
    """The fewest ties on a way between two houses."""
    if not is_number_below(web.many, one) or not is_number_below(web.many, other):
        raise NoHouse()
    return steps_from(web._beside, one)[other]


def width(web):
    """The greatest distance between two houses."""
    return max([max(steps_from(web._beside, house)) for house in range(web.many)])
