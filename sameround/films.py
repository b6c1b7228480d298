"""Films: runs that are gone through forward and backward, and pictures of them."""

from sameround.errors import BadMoves, NoMoment, NoNumber
from sameround.glass import Run, check_glass, first_glass, has_form_of_move, run_through
from sameround.kinds import is_number_below

MOST_MOVES = 3000
MOST_EVERY = 500


class Reel:
    """Moves from the first glass on, of which a glass is kept behind each multiple of every."""

    def __init__(self, course, moves, every):
        check_moves(course, moves)
        if not is_number_below(MOST_EVERY + 1, every) or every == 0:
            raise NoNumber()
        self._course = course
        self._moves = moves
        self._every = every
        self._at = 0
        self._many_worked = 0
        self._glass = first_glass(course)
        self._kept_glasses = {0: self._glass}

    def stands(self):
        """Behind how many moves it stands."""
        return self._at

    def glass_now(self):
        """The glass where it stands."""
        return self._glass

    def seek(self, at):
        """Stand behind so many moves."""
        if not is_number_below(len(self._moves) + 1, at):
            raise NoMoment()
        start = max([number for number in self._kept_glasses if number <= at])
        glass = self._kept_glasses[start]
        if start < self._at <= at:
            start = self._at
            glass = self._glass
        run = Run(self._course, glass)
        for number in range(start + 1, at + 1):
            run.do_move(self._moves[number - 1])
            if number % self._every == 0:
                self._kept_glasses[number] = run.glass_there()
        self._at = at
        self._many_worked = at - start
        self._glass = run.glass_there()

    def kept(self):
        """The ascending tuple of the numbers of moves behind which glasses are kept."""
        return tuple(sorted(list(self._kept_glasses)))

    def worked(self):
        """How many moves the last seek went through."""
        return self._many_worked

    def copy(self):
        """Another Reel that stands there, and keeps the same glasses."""
        other = Reel(self._course, self._moves, self._every)
        other._at = self._at
        other._many_worked = self._many_worked
        other._glass = self._glass
        other._kept_glasses = dict(self._kept_glasses)
        return other


def check_moves(course, thing):
    """Refuse what is no tuple of moves that can be done, one behind the other, from the first glass on."""
    if not isinstance(thing, tuple) or len(thing) > MOST_MOVES:
        raise BadMoves(-1)
    run = Run(course, first_glass(course))
    for index, move in enumerate(thing):
        if not has_form_of_move(move) or move not in run.coming():
            raise BadMoves(index)
        run.do_move(move)


def moves_of(course, choices):
    """The tuple of the moves that a run does by these choices."""
    return tuple(run_through(course, choices).done)


def house_row(house, state):
    """The row of a picture that shows a house."""
    cells = [str(cell) for cell in state[2]]
    return " ".join([str(house), ":", state[0], str(state[1])] + cells)


def way_row(way):
    """The row of a picture that shows words on their way."""
    sender, house, words = way
    shown = [".".join([str(part) for part in word]) for word in words]
    return " ".join([f"{sender}>{house}:"] + shown)


def drawn(course, glass):
    """The picture of a glass."""
    check_glass(course, glass)
    states, ways = glass
    rows = [house_row(house, state) for house, state in enumerate(states)] + [way_row(way) for way in ways]
    return "".join([row + "\n" for row in rows])


def round_sign(state):
    """The sign that shows in which round a house is."""
    if state[0] == "asleep":
        return "-"
    return "*" if state[0] == "over" else str(state[1])[-1]


def drawn_rounds(course, moves):
    """The picture of the rounds of all houses, move by move."""
    check_moves(course, moves)
    run = Run(course, first_glass(course))
    columns = [[round_sign(state) for state in run.states]]
    for move in moves:
        run.do_move(move)
        columns.append([round_sign(state) for state in run.states])
    rows = ["".join([column[house] for column in columns]) for house in range(len(run.states))]
    return "".join([row + "\n" for row in rows])
