"""The glass: what stands at a moment, what can be next, and whole runs."""

from sameround.errors import NoChoices, NoGlass, NoMove, NoWord
from sameround.keepers import is_neighbour, words_a_round
from sameround.kinds import is_ascending, is_number, is_number_below, is_plain_int
from sameround.lockstep import many_said
from sameround.states import begun, has_form_of_state, heard, is_word, started


class Run:
    """A course amid its way: the states, the words on their way, and what happened so far."""

    def __init__(self, course, glass):
        states, ways = glass
        self.course = course
        self.states = list(states)
        self.ways = {(sender, house): list(words) for sender, house, words in ways}
        self.takes = 0
        self.done = []
        self.events = []

    def glass_there(self):
        """The glass that stands now."""
        ways = [(sender, house, tuple(self.ways[(sender, house)]))
                for sender, house in sorted(list(self.ways))]
        return (tuple(self.states), tuple(ways))

    def coming(self):
        """The list of the moves that can be next, ascending."""
        asleep = [("start", house) for house, state in enumerate(self.states) if state[0] == "asleep"]
        return asleep + [("take", sender, house) for sender, house in sorted(list(self.ways))]

    def do_move(self, move):
        """Do a move that can be next."""
        self.done.append(move)
        if move[0] == "start":
            self.start(move[1])
        else:
            self.take_word(move[1], move[2])

    def start(self, house):
        """Start a house that is asleep."""
        state, out = started(self.course, house, self.states[house])
        self.go_to(house, state, out)

    def take_word(self, sender, house):
        """Let a house hear the first word that is on its way from another one."""
        words = self.ways[(sender, house)]
        word = words[0]
        state, out = heard(self.course, house, self.states[house], sender, word)
        self.takes += 1
        if word[0] == "said":
            self.events.append(("hear", house, sender))
        if len(words) == 1:
            del self.ways[(sender, house)]
        else:
            self.ways[(sender, house)] = words[1:]
        self.go_to(house, state, out)

    def go_to(self, house, state, out):
        """Put a house into the state behind its deed, and what it sends on its way."""
        entered_now = many_entered(state) - many_entered(self.states[house])
        self.events.extend([("enter", house)] * entered_now)
        self.states[house] = state
        for other, word in out:
            self.ways.setdefault((house, other), []).append(word)

    def are_all_over(self):
        """Whether all houses are over."""
        return all([state[0] == "over" for state in self.states])


def many_entered(state):
    """How many rounds a house in a state has entered."""
    return 0 if state[0] == "asleep" else state[1] + 1


def are_words(thing):
    """Whether a thing is a tuple of words that is not empty."""
    return isinstance(thing, tuple) and len(thing) > 0 and all([is_word(part) for part in thing])


def is_way(course, thing):
    """Whether a thing is a triple of two neighbours and the words on their way."""
    if not isinstance(thing, tuple) or len(thing) != 3:
        return False
    web = course.keeper.web
    sender, house, words = thing
    return is_number_below(web.many, sender) and is_neighbour(web, sender, house) and are_words(words)


def are_states(course, thing):
    """Whether a thing is a tuple of a state for each house."""
    if not isinstance(thing, tuple) or len(thing) != course.keeper.web.many:
        return False
    return all([has_form_of_state(course, state) for state in thing])


def are_ways(course, thing):
    """Whether a thing is an ascending tuple of ways, each from one house to another but once."""
    if not isinstance(thing, tuple) or not all([is_way(course, way) for way in thing]):
        return False
    return is_ascending([way[:2] for way in thing])


def is_glass(course, thing):
    """Whether a thing is a glass of the course, by form alone."""
    if not isinstance(thing, tuple) or len(thing) != 2:
        return False
    return are_states(course, thing[0]) and are_ways(course, thing[1])


def check_glass(course, thing):
    """Refuse what is no glass."""
    if not is_glass(course, thing):
        raise NoGlass()


def first_glass(course):
    """The glass in which all houses are asleep."""
    states = [begun(course, house) for house in range(course.keeper.web.many)]
    return (tuple(states), ())


def moves(course, glass):
    """The ascending tuple of what can be next."""
    check_glass(course, glass)
    return tuple(Run(course, glass).coming())


def has_form_of_move(thing):
    """Whether a thing is a word with integers behind it."""
    if not isinstance(thing, tuple) or not thing or not isinstance(thing[0], str):
        return False
    # A flag in the place of a number is equal to it, but makes no move.
    return all([is_plain_int(part) for part in thing[1:]])


def moved(course, glass, move):
    """The glass behind a move."""
    check_glass(course, glass)
    run = Run(course, glass)
    if not has_form_of_move(move) or move not in run.coming():
        raise NoMove()
    try:
        run.do_move(move)
    except NoWord:
        raise NoMove() from None
    return run.glass_there()


def do_rounds_hold(course, glass):
    """Whether rounds of neighbours differ by one at most."""
    states, _ = glass
    apart = [states[low][1] - states[high][1] for low, high in course.keeper.web.ties]
    return all([-1 <= difference <= 1 for difference in apart])


def do_gots_hold(glass):
    """Whether each house is owed as many gots as sayings and gots are on their way for it."""
    states, ways = glass
    due = [0] * len(states)
    for sender, house, words in ways:
        names = [word[0] for word in words]
        due[sender] += names.count("said")
        due[house] += names.count("got")
    return due == [state[3] for state in states]


def is_none_early(glass):
    """Whether no saying is on its way to a house that is beyond its round."""
    states, ways = glass
    for _, house, words in ways:
        if [word for word in words if word[0] == "said" and states[house][1] > word[1]]:
            return False
    return True


def do_cells_hold(course, glass):
    """Whether all know what lockstep tells for the rounds in which they are."""
    states, _ = glass
    return all([state[2] == course._lock[state[1]][house] for house, state in enumerate(states)])


def broken(course, glass):
    """The tuple of the words of those sums that do not hold."""
    check_glass(course, glass)
    words = []
    if not do_rounds_hold(course, glass):
        words.append("rounds")
    if not do_gots_hold(glass):
        words.append("gots")
    if not is_none_early(glass):
        words.append("early")
    if not do_cells_hold(course, glass):
        words.append("cells")
    return tuple(words)


def check_choices(thing):
    """Refuse what is no list or tuple of numbers."""
    if not isinstance(thing, (list, tuple)):
        raise NoChoices(-1)
    for index, choice in enumerate(thing):
        if not is_number(choice):
            raise NoChoices(index)


def run_through(course, choices):
    """The Run of a course behind its last move, by these choices and the least moves behind them."""
    check_choices(choices)
    run = Run(course, first_glass(course))
    at = 0
    while coming := run.coming():
        choice = choices[at] if at < len(choices) else 0
        run.do_move(coming[choice % len(coming)])
        at += 1
    return run


def run_out(course, choices):
    """The pair of the glass behind a whole run, and of how many words were taken in it."""
    run = run_through(course, choices)
    return (run.glass_there(), run.takes)


def all_words(course):
    """How many words each run of the course takes."""
    said = many_said(course.keeper.web, course.program, course.goal)
    return course.goal * words_a_round(course.keeper) + 2 * said


def beats(course):
    """How many beats it takes until all are over, if all start at once."""
    run = Run(course, first_glass(course))
    for house in range(course.keeper.web.many):
        run.start(house)
    many = 0
    while not run.are_all_over():
        # Counted ahead, because what comes on its way in this beat waits for the next one.
        waiting = [(sender, house, len(run.ways[(sender, house)])) for sender, house in sorted(list(run.ways))]
        for sender, house, words in waiting:
            for _ in range(words):
                run.take_word(sender, house)
        many += 1
    return many
