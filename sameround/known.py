"""Programs of which it is known what houses know by them: a tree, the least number, walks."""

from sameround.errors import NoNumber
from sameround.kinds import is_number_below
from sameround.programs import Program
from sameround.webs import MOST_HOUSES

ALWAYS = ("number", 1)


def tree_program(house):
    """Each house comes to know how far it is from this one, and by which neighbour."""
    if not is_number_below(MOST_HOUSES, house):
        raise NoNumber()
    is_it = ("same", ("me",), ("number", house))
    starts = (("if", is_it, ("number", 0), ("number", -1)), ("number", -1))
    is_reached = ("less", ("number", -1), ("cell", 0))
    # Both cells ask the same, because all nexts are worked out by the cells ahead.
    is_found = ("and", ("less", ("cell", 0), ("number", 0)), ("heard",))
    nexts = (
        ("if", is_found, ("add", ("round",), ("number", 1)), ("cell", 0)),
        ("if", is_found, ("least",), ("cell", 1)),
    )
    return Program(starts, is_reached, ("me",), nexts)


def least_program():
    """Each house comes to know the least number of a house."""
    # "least" is 0 where nothing was said, so it must not be asked then.
    lesser = ("if", ("heard",), ("min", ("cell", 0), ("least",)), ("cell", 0))
    return Program((("me",),), ALWAYS, ("cell", 0), (lesser,))


def walk_program(house):
    """Each house knows how many walks of as many ties as there were rounds lead to it from this one."""
    if not is_number_below(MOST_HOUSES, house):
        raise NoNumber()
    return Program((("same", ("me",), ("number", house)),), ALWAYS, ("cell", 0), (("sum",),))
