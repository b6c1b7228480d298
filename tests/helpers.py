"""What several tests need: things of all kinds, and a way to see which error comes."""

import random

from sameround.errors import BadWeb, NoHouse
from sameround.programs import Program
from sameround.webs import Web


def nested(deep, outer):
    """None in as many lists or tuples, one in the other."""
    thing = None
    for _ in range(deep):
        thing = outer([thing])
    return thing


def no_integers():
    """Things of all kinds that no point takes for an integer."""
    return [
        None, True, False, "", "0", "1", "many", b"", b"\x00", bytearray(b"a"), memoryview(b"a"),
        [], [0], [1, 2], (), (0,), (1, 2), ((0, 1),), {}, {0: 1}, {"many": [1]}, range(2),
        slice(0, 1), Ellipsis, NotImplemented, object(), int, len, iter([1]), zip([0], [1]),
        (k for k in (0, 1)), lambda: 0, Web(1, ()), Web(2, ((0, 1),)), small_program(),
        NoHouse(), BadWeb(1), NoHouse, Web, nested(40, list), nested(40, tuple),
        [0] * 5000, ((0, 1),) * 5000, "a" * 20000, [[[]] * 100] * 50,
    ]


def no_tuples():
    """Things of all kinds that are no tuples, integers among them."""
    return [thing for thing in no_integers() if not isinstance(thing, tuple)] + [
        0, 1, -1, 2 ** 31, 10 ** 20 - 1, 1 - 10 ** 20]


def small_program():
    """The program of the document's examples: each keeps the least number that it heard."""
    return Program((("me",),), ("number", 1), ("cell", 0), (("min", ("cell", 0), ("least",)),))


def raised(call, *arguments):
    """The error that a call raises, None without one."""
    try:
        call(*arguments)
    except Exception as wrong:
        return wrong
    return None


def row(many):
    return Web(many, tuple((k, k + 1) for k in range(many - 1)))


def star(many):
    return Web(many, tuple((0, k) for k in range(1, many)))


def ring(many):
    return Web(many, tuple(sorted([(k, k + 1) for k in range(many - 1)] + [(0, many - 1)])))


def full(many):
    return Web(many, tuple((a, b) for a in range(many) for b in range(a + 1, many)))


def grown(many, more, seed):
    """A tree of houses that are tied to any earlier one, with some more ties."""
    chance = random.Random(seed)
    ties = {(chance.randrange(k), k) for k in range(1, many)}
    for _ in range(more):
        ties.add(tuple(sorted(chance.sample(range(many), 2))))
    return Web(many, tuple(sorted(ties)))


def webs():
    made = [Web(1, ()), Web(2, ((0, 1),)), full(3), full(7), full(40)]
    for many in (3, 4, 10, 39, 40):
        made.extend([row(many), star(many), ring(many)])
        made.extend([grown(many, more, many * 10 + more) for more in (0, 1, 2, 5, 20)])
    return made


def counted(web):
    """All distances, by going through each house in turn."""
    away = {(a, b): 0 if a == b else 1000 for a in range(web.many) for b in range(web.many)}
    for a, b in web.ties:
        away[a, b] = away[b, a] = 1
    for through in range(web.many):
        for a in range(web.many):
            for b in range(web.many):
                away[a, b] = min(away[a, b], away[a, through] + away[through, b])
    return away


def quiet_program():
    """Some say something to some neighbours in some rounds only, by two cells that wander."""
    to = ("rest", ("add", ("add", ("me",), ("round",)), ("mul", ("other",), ("cell", 0))), ("number", 3))
    say = ("sub", ("mul", ("cell", 1), ("number", 1000003)), ("other",))
    nexts = (
        ("add", ("cell", 1), ("sub", ("most",), ("mul", ("heard",), ("ties",)))),
        ("add", ("mul", ("cell", 0), ("number", 65537)), ("add", ("sum",), ("least",))),
    )
    return Program((("add", ("me",), ("number", 5)), ("mul", ("many",), ("me",))), to, say, nexts)


def silent_program():
    """None says anything; each counts the rounds."""
    return Program((("number", 0),), ("number", 0), ("me",), (("add", ("round",), ("number", 1)),))


def loud_program():
    """All add up all that they hear, beyond what is small; odd ones say nothing in odd rounds."""
    to = ("or", ("rest", ("add", ("me",), ("number", 1)), ("number", 2)),
          ("rest", ("add", ("round",), ("number", 1)), ("number", 2)))
    return Program((("add", ("mul", ("me",), ("me",)), ("number", 1)),), to, ("cell", 0),
                   (("mul", ("sum",), ("add", ("cell", 0), ("number", 7))),))


def programs():
    return [small_program(), quiet_program(), silent_program(), loud_program()]
