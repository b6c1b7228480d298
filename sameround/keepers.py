"""Keepers of rounds, which part houses into clusters, and courses that they keep."""

from sameround.errors import BadKeeper, NoHouse, NoNumber, TooMany
from sameround.kinds import is_ascending, is_number_below, is_plain_int
from sameround.lockstep import MOST_ROUNDS, lockstep
from sameround.webs import houses_beside, is_tie, neighbours, steps_from

MOST_ON_COURSE = 8


class Keeper:
    """A parent for each house that is no leader, and a chosen tie for each two clusters with ties."""

    def __init__(self, web, parents, chosen):
        if not are_parents(web, parents):
            raise BadKeeper("parents")
        leaders = leaders_by(parents)
        if not are_chosen(web, leaders, chosen):
            raise BadKeeper("chosen")
        self.web = web
        self.parents = parents
        self.chosen = chosen
        # Kept because each word that a house hears asks for them.
        self._leaders = leaders
        self._children = children_by(parents)
        self._across = houses_beside(web.many, chosen)

    def __eq__(self, other):
        return (isinstance(other, Keeper) and self.web == other.web
                and self.parents == other.parents and self.chosen == other.chosen)


class Course:
    """A program on the web of a keeper, up to round goal."""

    def __init__(self, program, keeper, goal):
        if keeper.web.many > MOST_ON_COURSE:
            raise TooMany(MOST_ON_COURSE)
        if not is_number_below(MOST_ROUNDS + 1, goal):
            raise NoNumber()
        self.program = program
        self.keeper = keeper
        self.goal = goal
        # Kept because each look at a glass asks for it.
        self._lock = tuple(lockstep(keeper.web, program, goal))

    def __eq__(self, other):
        return (isinstance(other, Course) and self.program == other.program
                and self.keeper == other.keeper and self.goal == other.goal)


def is_neighbour(web, house, thing):
    """Whether a thing is a house that is tied to a house."""
    return is_number_below(web.many, thing) and thing in neighbours(web, house)


def are_parents(web, thing):
    """Whether a thing is a tuple of parents by which each house comes to a leader."""
    if not isinstance(thing, tuple) or len(thing) != web.many:
        return False
    for house, parent in enumerate(thing):
        if parent is not None and not is_neighbour(web, house, parent):
            return False
    return all([thing[leader] is None for leader in leaders_by(thing)])


def way_up(parents, house):
    """The list of the houses from a house to its leader; where parents form a ring, it just ends."""
    way = [house]
    while parents[way[-1]] is not None and len(way) <= len(parents):
        way.append(parents[way[-1]])
    return way


def leaders_by(parents):
    """For each house its leader."""
    return tuple([way_up(parents, house)[-1] for house in range(len(parents))])


def children_by(parents):
    """For each house the lot of its children."""
    many = len(parents)
    return tuple([tuple([child for child in range(many) if parents[child] == house])
                  for house in range(many)])


def crossed_by(leaders, tie):
    """The pair of the leaders of both clusters of a tie, the lesser one first."""
    low, high = tie
    return (min(leaders[low], leaders[high]), max(leaders[low], leaders[high]))


def least_ties(web, leaders):
    """The ascending tuple of the least ties, one for each two clusters between which there are ties."""
    least = {}
    for tie in web.ties:
        one, other = crossed_by(leaders, tie)
        if one != other and (one, other) not in least:
            least[(one, other)] = tie
    return tuple(sorted(list(least.values())))


def are_chosen(web, leaders, thing):
    """Whether a thing is an ascending tuple of ties, just one for each two clusters with ties."""
    if not isinstance(thing, tuple) or not all([is_tie(web.many, tie) for tie in thing]):
        return False
    if not is_ascending(thing) or not all([tie in web.ties for tie in thing]):
        return False
    due = [crossed_by(leaders, tie) for tie in least_ties(web, leaders)]
    return sorted([crossed_by(leaders, tie) for tie in thing]) == sorted(due)


def alpha(web):
    """The keeper in which each house is a cluster."""
    return Keeper(web, (None,) * web.many, web.ties)


def beta(web):
    """The keeper of one cluster with house 0 as its leader."""
    beside = beside_left(web, list(range(web.many)))
    steps = steps_from(beside, 0)
    parents = [nearest_beside(beside, steps, house) for house in range(web.many)]
    return Keeper(web, tuple(parents), ())


def gamma(web, k):
    """The keeper that grows each cluster as long as a tie more makes it k times as large."""
    if not is_plain_int(k) or not 2 <= k <= 8:
        raise NoNumber()
    parents = [None] * web.many
    left = list(range(web.many))
    while left:
        beside = beside_left(web, left)
        steps = steps_from(beside, left[0])
        ball = ball_within(steps, reach_of(k, steps))
        for house in ball:
            parents[house] = nearest_beside(beside, steps, house)
        left = [house for house in left if house not in ball]
    return Keeper(web, tuple(parents), least_ties(web, leaders_by(parents)))


def beside_left(web, left):
    """For each house the list of its neighbours that are left, of none for one that is not."""
    beside = [[] for _ in range(web.many)]
    for house in left:
        beside[house] = [other for other in neighbours(web, house) if other in left]
    return beside


def ball_within(steps, reach):
    """The list of the houses that are at most so many steps away."""
    return [house for house, far_off in enumerate(steps) if far_off is not None and far_off <= reach]


def reach_of(k, steps):
    """The least number of ties whose ball grows less than k times by one tie more."""
    reach = 0
    while len(ball_within(steps, reach + 1)) >= k * len(ball_within(steps, reach)):
        reach += 1
    return reach


def nearest_beside(beside, steps, house):
    """The least neighbour of a house by fewer steps away, None where there are no steps."""
    nearer = [other for other in beside[house] if steps[other] < steps[house]]
    return min(nearer, default=None)


def clusters(keeper):
    """The tuple of the lots of houses of all clusters, by leaders."""
    lots = {leader: [] for leader in sorted(list(keeper._leaders))}
    for house, leader in enumerate(keeper._leaders):
        lots[leader].append(house)
    return tuple([tuple(lot) for lot in lots.values()])


def leader_of(keeper, house):
    """The leader of the cluster of a house."""
    if not is_number_below(keeper.web.many, house):
        raise NoHouse()
    return keeper._leaders[house]


def children_of(keeper, house):
    """The lot of the houses whose parent is a house."""
    return keeper._children[house]


def chosen_beside(keeper, house):
    """The lot of the houses with whom a house has a chosen tie."""
    return keeper._across[house]


def depth(keeper):
    """The most steps from a house to its leader."""
    return max([len(way_up(keeper.parents, house)) - 1 for house in range(keeper.web.many)])


def words_a_round(keeper):
    """How many words a round takes, but for what is said and its answers."""
    below = len([parent for parent in keeper.parents if parent is not None])
    if not keeper.chosen:
        return 2 * below
    return 4 * below + 2 * len(keeper.chosen)


def is_keeper(web, thing):
    """Whether a thing is a keeper of the web."""
    return isinstance(thing, Keeper) and thing.web == web
