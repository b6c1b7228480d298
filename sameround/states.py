"""What a house knows, and its deeds: functions of its state."""

from sameround.errors import NoHouse, NotAsleep, NoWord
from sameround.keepers import children_of, chosen_beside
from sameround.kinds import is_ascending, is_lot_below, is_number, is_number_below, is_small
from sameround.lockstep import are_cells, nexts_come_to, sayings_come_to, starts_come_to
from sameround.webs import neighbours

ROUNDS_OF_WORDS = 1000
STAGES = ("asleep", "says", "up", "down", "done", "over")
# The words behind which a round stands, and nothing else.
BARE_WORDS = ("got", "up", "down", "next", "done", "go")


def check_house(course, thing):
    """Refuse what is no house of the web."""
    if not is_number_below(course.keeper.web.many, thing):
        raise NoHouse()


def begun(course, house):
    """The state in which a house begins."""
    check_house(course, house)
    cells = starts_come_to(course.keeper.web, course.program, house)
    return ("asleep", 0, cells, 0, (), (), (), ())


def is_word(thing):
    """Whether a thing is a word that a house may send to a neighbour."""
    if not isinstance(thing, tuple) or not 2 <= len(thing) <= 3:
        return False
    if not isinstance(thing[0], str) or not is_number_below(ROUNDS_OF_WORDS, thing[1]):
        return False
    if thing[0] == "said":
        return len(thing) == 3 and is_small(thing[2])
    return len(thing) == 2 and thing[0] in BARE_WORDS


def is_next_kept(course, thing):
    """Whether a thing is a pair of a round and a sender."""
    if not isinstance(thing, tuple) or len(thing) != 2:
        return False
    at, sender = thing
    return is_number_below(course.goal + 1, at) and is_number_below(course.keeper.web.many, sender)


def is_said_kept(course, thing):
    """Whether a thing is a triple of a round, a sender and a small number."""
    if not isinstance(thing, tuple) or len(thing) != 3:
        return False
    return is_next_kept(course, thing[:2]) and is_small(thing[2])


def are_saids(course, thing):
    """Whether a thing is an ascending tuple of what was said to a house."""
    if not isinstance(thing, tuple) or not all([is_said_kept(course, part) for part in thing]):
        return False
    return is_ascending(thing)


def are_nexts(course, thing):
    """Whether a thing is an ascending tuple of who sent next to a house."""
    if not isinstance(thing, tuple) or not all([is_next_kept(course, part) for part in thing]):
        return False
    return is_ascending(thing)


def has_form_of_state(course, thing):
    """Whether a thing is a state by its form, which is the same for all houses of a course."""
    if not isinstance(thing, tuple) or len(thing) != 8:
        return False
    stage, at, cells, owed, saids, ups, nexts, dones = thing
    many = course.keeper.web.many
    if not isinstance(stage, str) or stage not in STAGES:
        return False
    if not is_number_below(course.goal + 1, at) or not is_number(owed):
        return False
    if not are_cells(course.program, cells) or not are_saids(course, saids):
        return False
    return is_lot_below(many, ups) and are_nexts(course, nexts) and is_lot_below(many, dones)


def is_state(course, house, thing):
    """Whether a thing is a state of a house, by form alone."""
    check_house(course, house)
    return has_form_of_state(course, thing)


class AtWork:
    """A house amid a deed: its state, part by part, and what it sends."""

    def __init__(self, course, number, state):
        self.course = course
        self.number = number
        self.stage, self.at, self.cells, self.owed, self.saids, self.ups, self.nexts, self.dones = state
        self.out = []

    def told(self):
        """The pair of its state now, and of all that it sent."""
        state = (self.stage, self.at, self.cells, self.owed, self.saids, self.ups, self.nexts, self.dones)
        return (state, tuple(self.out))

    def send(self, houses, word):
        """Send a word to each of the houses, in order."""
        self.out.extend([(other, word) for other in houses])

    def enter(self, at):
        """Enter a round: be over, or say what is to be said in it."""
        self.at = at
        if at == self.course.goal:
            self.stage = "over"
            self.owed = 0
            return
        self.stage = "says"
        web = self.course.keeper.web
        said = sayings_come_to(web, self.course.program, self.number, at, self.cells)
        self.out.extend([(other, ("said", at, number)) for other, number in said])
        self.owed = len(said)

    def go_on(self):
        """Do what comes next, as long as something can be done without a word more."""
        while self.has_all_for_up() or self.has_all_for_done():
            if self.stage == "says":
                self.close_up()
            else:
                self.close_done()

    def has_all_for_up(self):
        """Whether all below it, and itself, have their answers."""
        children = children_of(self.course.keeper, self.number)
        return self.stage == "says" and self.owed == 0 and self.ups == children

    def has_all_for_done(self):
        """Whether all below it, and itself, know that the clusters beside are as far."""
        keeper = self.course.keeper
        if self.stage != "down" or self.dones != children_of(keeper, self.number):
            return False
        return all([(self.at, other) in self.nexts for other in chosen_beside(keeper, self.number)])

    def close_up(self):
        """Tell its parent up; a leader tells its own cluster what comes next."""
        keeper = self.course.keeper
        parent = keeper.parents[self.number]
        if parent is not None:
            self.send((parent,), ("up", self.at))
            self.stage = "up"
        elif not keeper.chosen:
            self.pass_round()
        else:
            self.spread()

    def close_done(self):
        """Tell its parent done; a leader passes the round."""
        parent = self.course.keeper.parents[self.number]
        if parent is not None:
            self.send((parent,), ("done", self.at))
            self.stage = "done"
        else:
            self.pass_round()

    def spread(self):
        """Tell that its cluster has all answers: to its children, and to clusters beside."""
        keeper = self.course.keeper
        self.stage = "down"
        self.send(children_of(keeper, self.number), ("down", self.at))
        self.send(chosen_beside(keeper, self.number), ("next", self.at))

    def pass_round(self):
        """Let its children go, work out what it knows next, and enter the next round."""
        keeper = self.course.keeper
        at = self.at
        self.send(children_of(keeper, self.number), ("go", at))
        numbers = [said[2] for said in self.saids if said[0] == at]
        self.cells = nexts_come_to(keeper.web, self.course.program, self.number, at, self.cells, numbers)
        self.saids = tuple([said for said in self.saids if said[0] != at])
        self.nexts = tuple([kept for kept in self.nexts if kept[0] != at])
        self.ups = ()
        self.dones = ()
        self.enter(at + 1)


def started(course, house, state):
    """The pair of the state of a house behind its start, and what it sends then."""
    check_house(course, house)
    if not has_form_of_state(course, state) or state[0] != "asleep":
        raise NotAsleep()
    work = AtWork(course, house, state)
    work.enter(0)
    work.go_on()
    return work.told()


def is_round_ahead(work, at):
    """Whether a house can hear now what a neighbour tells of a round that it may have entered first."""
    if at >= work.course.goal:
        return False
    return at == 0 if work.stage == "asleep" else at in (work.at, work.at + 1)


def is_child(work, sender):
    """Whether a house is a child of the one at work."""
    return sender in children_of(work.course.keeper, work.number)


def is_parent(work, sender):
    """Whether a house is the parent of the one at work."""
    return work.course.keeper.parents[work.number] == sender


def is_said_due(work, sender, at):
    """Whether a said of a round can be heard then."""
    kept = [(said[0], said[1]) for said in work.saids]
    return is_round_ahead(work, at) and (at, sender) not in kept


def is_got_due(work, sender, at):
    """Whether a got of a round can be heard then; from whom does not matter."""
    return at == work.at and work.owed > 0


def is_up_due(work, sender, at):
    """Whether an up of a round can be heard then."""
    if not is_child(work, sender) or at != work.at or sender in work.ups:
        return False
    return work.stage in ("asleep", "says")


def is_down_due(work, sender, at):
    """Whether a down of a round can be heard then."""
    if not is_parent(work, sender) or at != work.at or not work.course.keeper.chosen:
        return False
    return work.stage == "up"


def is_next_due(work, sender, at):
    """Whether a next of a round can be heard then."""
    if sender not in chosen_beside(work.course.keeper, work.number):
        return False
    return is_round_ahead(work, at) and (at, sender) not in work.nexts


def is_done_due(work, sender, at):
    """Whether a done of a round can be heard then."""
    if not is_child(work, sender) or at != work.at or sender in work.dones:
        return False
    return work.stage == "down"


def is_go_due(work, sender, at):
    """Whether a go of a round can be heard then."""
    if not is_parent(work, sender) or at != work.at:
        return False
    return work.stage == ("done" if work.course.keeper.chosen else "up")


CLAUSES = {
    "said": is_said_due,
    "got": is_got_due,
    "up": is_up_due,
    "down": is_down_due,
    "next": is_next_due,
    "done": is_done_due,
    "go": is_go_due,
}


def is_due(work, sender, word):
    """Whether a house can hear a word from another one then."""
    if work.stage == "over" or sender not in neighbours(work.course.keeper.web, work.number):
        return False
    clause = CLAUSES[word[0]]
    return clause(work, sender, word[1])


def take_in(work, sender, word):
    """Do what a word asks for that can be heard then."""
    at = word[1]
    if word[0] == "said":
        work.saids = tuple(sorted([*work.saids, (at, sender, word[2])]))
        work.send((sender,), ("got", at))
    elif word[0] == "got":
        work.owed -= 1
    elif word[0] == "up":
        work.ups = tuple(sorted([*work.ups, sender]))
    elif word[0] == "next":
        work.nexts = tuple(sorted([*work.nexts, (at, sender)]))
    elif word[0] == "done":
        work.dones = tuple(sorted([*work.dones, sender]))
    elif word[0] == "down":
        work.spread()
    else:
        work.pass_round()


def heard(course, house, state, sender, word):
    """The pair of the state of a house behind a word from another one, and what it sends then."""
    check_house(course, house)
    check_house(course, sender)
    work = AtWork(course, house, state)
    if not is_word(word) or not is_due(work, sender, word):
        raise NoWord()
    take_in(work, sender, word)
    if work.stage != "asleep":
        work.go_on()
    return work.told()
