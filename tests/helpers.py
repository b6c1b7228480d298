"""What several tests need: things of all kinds, and a way to see which error comes."""

from sameround.errors import BadWeb, NoHouse
from sameround.programs import Program
from sameround.webs import Web


def nested(deep, outer):
    """None in as many lists or tuples, one in the other."""
    thing = None
    for _ in range(deep):
        thing = outer([thing])
    return thing


def no_integers():
    """Things of all kinds that no point takes for an integer."""
    return [
        None, True, False, "", "0", "1", "many", b"", b"\x00", bytearray(b"a"), memoryview(b"a"),
        [], [0], [1, 2], (), (0,), (1, 2), ((0, 1),), {}, {0: 1}, {"many": [1]}, range(2),
        slice(0, 1), Ellipsis, NotImplemented, object(), int, len, iter([1]), zip([0], [1]),
        (k for k in (0, 1)), lambda: 0, Web(1, ()), Web(2, ((0, 1),)), small_program(),
        NoHouse(), BadWeb(1), NoHouse, Web, nested(40, list), nested(40, tuple),
        [0] * 5000, ((0, 1),) * 5000, "a" * 20000, [[[]] * 100] * 50,
    ]


def no_tuples():
    """Things of all kinds that are no tuples, integers among them."""
    return [thing for thing in no_integers() if not isinstance(thing, tuple)] + [
        0, 1, -1, 2 ** 31, 10 ** 20 - 1, 1 - 10 ** 20]


def small_program():
    """The program of the document's examples: each keeps the least number that it heard."""
    return Program((("me",),), ("number", 1), ("cell", 0), (("min", ("cell", 0), ("least",)),))


def raised(call, *arguments):
    """The error that a call raises, None without one."""
    try:
        call(*arguments)
    except Exception as wrong:
        return wrong
    return None
