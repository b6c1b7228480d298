"""What expressions come to, and rounds in which all houses speak at once."""

from sameround.errors import NoCells, NoHouse, NoNumber, NoSayings
from sameround.kinds import is_number_below, is_small
from sameround.webs import neighbours

MOST_ROUNDS = 40
MOST_ROUND = 1000
MOST_SAID = 39


def brought_back(number):
    """The small number that differs from an integer by a multiple of 2 ** 32."""
    return (number + 2 ** 31) % 2 ** 32 - 2 ** 31


def sum_of(one, other):
    """What "add" comes to."""
    return brought_back(one + other)


def difference_of(one, other):
    """What "sub" comes to."""
    return brought_back(one - other)


def product_of(one, other):
    """What "mul" comes to."""
    return brought_back(one * other)


def lesser_of(one, other):
    """What "min" comes to."""
    return min(one, other)


def greater_of(one, other):
    """What "max" comes to."""
    return max(one, other)


def is_less(one, other):
    """What "less" comes to."""
    return 1 if one < other else 0


def is_same(one, other):
    """What "same" comes to."""
    return 1 if one == other else 0


def are_both(one, other):
    """What "and" comes to."""
    return 1 if one != 0 and other != 0 else 0


def is_either(one, other):
    """What "or" comes to."""
    return 1 if one != 0 or other != 0 else 0


def rest_of(one, other):
    """What "rest" comes to."""
    return one % other if other > 0 else 0


OF_TWO = {
    "add": sum_of,
    "sub": difference_of,
    "mul": product_of,
    "min": lesser_of,
    "max": greater_of,
    "less": is_less,
    "same": is_same,
    "and": are_both,
    "or": is_either,
    "rest": rest_of,
}


def come_to(view, expression):
    """What an expression comes to; view tells by words what the house sees then."""
    word = expression[0]
    if word == "number":
        return expression[1]
    if word == "cell":
        return view["cell"][expression[1]]
    if word in view:
        return view[word]
    if word == "if":
        return come_to(view, expression[3] if come_to(view, expression[1]) == 0 else expression[2])
    action = OF_TWO[word]
    return action(come_to(view, expression[1]), come_to(view, expression[2]))


def first_view(web, house):
    """What a house sees from the start."""
    return {"me": house, "many": web.many, "ties": len(neighbours(web, house))}


def starts_come_to(web, program, house):
    """What starts come to in a house that is there."""
    view = first_view(web, house)
    return tuple([come_to(view, start) for start in program.starts])


def sayings_come_to(web, program, house, at, cells):
    """The sayings of a house, as sayings tells, where all arguments are known to be right."""
    view = first_view(web, house)
    view["round"] = at
    view["cell"] = cells
    said = []
    for other in neighbours(web, house):
        view["other"] = other
        if come_to(view, program.to) != 0:
            said.append((other, come_to(view, program.say)))
    return tuple(said)


def nexts_come_to(web, program, house, at, cells, numbers):
    """The next cells, as next_cells tells, where all arguments are known to be right."""
    view = first_view(web, house)
    view["round"] = at
    view["cell"] = cells
    view["heard"] = len(numbers)
    view["sum"] = brought_back(sum(numbers))
    view["least"] = min(numbers, default=0)
    view["most"] = max(numbers, default=0)
    return tuple([come_to(view, expression) for expression in program.nexts])


def are_smalls(thing):
    """Whether a thing is a tuple of small numbers."""
    return isinstance(thing, tuple) and all([is_small(part) for part in thing])


def are_cells(program, thing):
    """Whether a thing is what a house can know."""
    return are_smalls(thing) and len(thing) == len(program.starts)


def start_cells(web, program, house):
    """What a house knows at first."""
    if not is_number_below(web.many, house):
        raise NoHouse()
    return starts_come_to(web, program, house)


def check_round(web, program, house, at, cells):
    """Refuse what is no house, no round, or nothing that a house can know."""
    if not is_number_below(web.many, house):
        raise NoHouse()
    if not is_number_below(MOST_ROUND + 1, at):
        raise NoNumber()
    if not are_cells(program, cells):
        raise NoCells()


def sayings(web, program, house, at, cells):
    """The ascending tuple of the pairs of a neighbour and what the house says to it in a round."""
    check_round(web, program, house, at, cells)
    return sayings_come_to(web, program, house, at, cells)


def next_cells(web, program, house, at, cells, numbers):
    """What a house knows behind a round in which these numbers were said to it."""
    check_round(web, program, house, at, cells)
    if not are_smalls(numbers) or len(numbers) > MOST_SAID:
        raise NoSayings()
    return nexts_come_to(web, program, house, at, cells, numbers)


def all_sayings(web, program, at, rows):
    """The tuple of the sayings of all houses in a round, rows being the cells of all."""
    return tuple([sayings_come_to(web, program, house, at, cells)
                  for house, cells in enumerate(rows)])


def said_to_each(web, said):
    """For each house the list of what was said to it, said being the sayings of all."""
    numbers = [[] for _ in range(web.many)]
    for pairs in said:
        for other, number in pairs:
            numbers[other].append(number)
    return numbers


def rows_behind(web, program, at, rows, said):
    """The cells of all houses behind a round, by those ahead and the sayings of all."""
    numbers = said_to_each(web, said)
    return tuple([nexts_come_to(web, program, house, at, cells, numbers[house])
                  for house, cells in enumerate(rows)])


def round_by_round(web, program, rounds):
    """The pair of two lists: the cells of all in each round up to rounds, the sayings of all below."""
    rows = tuple([starts_come_to(web, program, house) for house in range(web.many)])
    cells = [rows]
    told = []
    for at in range(rounds):
        said = all_sayings(web, program, at, rows)
        rows = rows_behind(web, program, at, rows, said)
        told.append(said)
        cells.append(rows)
    return (cells, told)


def lockstep(web, program, rounds):
    """The list of the cells of all houses, round by round, from round 0 on."""
    if not is_number_below(MOST_ROUNDS + 1, rounds):
        raise NoNumber()
    cells, _ = round_by_round(web, program, rounds)
    return cells


def many_said(web, program, rounds):
    """How many numbers are said in the rounds below this one."""
    if not is_number_below(MOST_ROUNDS + 1, rounds):
        raise NoNumber()
    _, told = round_by_round(web, program, rounds)
    return sum([len(pairs) for said in told for pairs in said])
