"""Programs: the expressions by which houses start, speak and go on."""

from sameround.errors import BadProgram
from sameround.kinds import is_number_below, is_small

MOST_STARTS = 4
MOST_DEEP = 12
MOST_IN_ONE = 60

# How many expressions stand behind each word. "number" and "cell" are not here:
# what stands behind them is no expression.
PARTS = {
    "me": 0,
    "many": 0,
    "ties": 0,
    "round": 0,
    "other": 0,
    "heard": 0,
    "sum": 0,
    "least": 0,
    "most": 0,
    "add": 2,
    "sub": 2,
    "mul": 2,
    "min": 2,
    "max": 2,
    "less": 2,
    "same": 2,
    "and": 2,
    "or": 2,
    "rest": 2,
    "if": 3,
}

# What a house does not know yet, or not any more, where the expression is worked out.
NOT_IN_STARTS = ("cell", "round", "other", "heard", "sum", "least", "most")
NOT_IN_SAYINGS = ("heard", "sum", "least", "most")
NOT_IN_NEXTS = ("other",)


class Program:
    """What houses know at first, to whom they say what, and what they know next."""

    def __init__(self, starts, to, say, nexts):
        if not isinstance(starts, tuple) or not 1 <= len(starts) <= MOST_STARTS:
            raise BadProgram("starts")
        cells = len(starts)
        if not are_expressions(NOT_IN_STARTS, cells, starts):
            raise BadProgram("starts")
        if not is_expression(NOT_IN_SAYINGS, cells, to):
            raise BadProgram("to")
        if not is_expression(NOT_IN_SAYINGS, cells, say):
            raise BadProgram("say")
        if not isinstance(nexts, tuple) or len(nexts) != cells:
            raise BadProgram("nexts")
        if not are_expressions(NOT_IN_NEXTS, cells, nexts):
            raise BadProgram("nexts")
        self.starts = starts
        self.to = to
        self.say = say
        self.nexts = nexts

    def __eq__(self, other):
        return (isinstance(other, Program) and self.starts == other.starts and self.to == other.to
                and self.say == other.say and self.nexts == other.nexts)


def are_expressions(barred, cells, things):
    """Whether all things are expressions, as is_expression tells."""
    return all([is_expression(barred, cells, thing) for thing in things])


def is_expression(barred, cells, thing):
    """Whether a thing is an expression without barred words, of cells below so many."""
    many = 0
    waiting = [(thing, 1)]
    while waiting:
        part, deep = waiting.pop()
        many += 1
        # Asked for each part alone, so that nothing deeper or longer is gone into.
        if many > MOST_IN_ONE or deep > MOST_DEEP or not begins_well(barred, cells, part):
            return False
        waiting.extend([(inner, deep + 1) for inner in inner_parts(part)])
    return True


def begins_well(barred, cells, thing):
    """Whether a thing is an expression, but for the expressions that stand in it."""
    if not isinstance(thing, tuple) or not thing or not isinstance(thing[0], str):
        return False
    word = thing[0]
    if word in barred:
        return False
    if word == "number":
        return len(thing) == 2 and is_small(thing[1])
    if word == "cell":
        return len(thing) == 2 and is_number_below(cells, thing[1])
    return word in PARTS and len(thing) == PARTS[word] + 1


def inner_parts(expression):
    """The tuple of the expressions that stand behind the word of an expression."""
    if expression[0] in ("number", "cell"):
        return ()
    return expression[1:]
