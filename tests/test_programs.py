"""Programs [2.1], [2.2]."""

import random
import unittest

from sameround.errors import BadProgram
from sameround.programs import Program

from tests.helpers import no_integers, no_tuples, raised, small_program

ALONE = ("me", "many", "ties", "round", "other", "heard", "sum", "least", "most")
OF_TWO = ("add", "sub", "mul", "min", "max", "less", "same", "and", "or", "rest")
ONE = ("number", 1)
PARTS = ("starts", "to", "say", "nexts")
# Where the document does not let a word stand.
BARRED = {
    "starts": ("cell", "round", "other", "heard", "sum", "least", "most"),
    "to": ("heard", "sum", "least", "most"),
    "say": ("heard", "sum", "least", "most"),
    "nexts": ("other",),
}
WORDS = ("number", "cell", *ALONE, *OF_TWO, "if")


def with_word(word, inner=ONE):
    """An expression that begins with a word."""
    if word == "number":
        return ("number", 3)
    if word == "cell":
        return ("cell", 0)
    if word in ALONE:
        return (word,)
    return (word, inner, inner) if word in OF_TWO else (word, inner, inner, inner)


def arguments(part, thing):
    """What makes a program of one start, with a thing as one part, or in it."""
    parts = {"starts": (ONE,), "to": ONE, "say": ONE, "nexts": (ONE,)}
    parts[part] = (thing,) if part in ("starts", "nexts") else thing
    return [parts[name] for name in PARTS]


def chain(deep, last=("me",)):
    """An expression so many deep."""
    for _ in range(deep - 1):
        last = ("add", ONE, last)
    return last


def of_size(many):
    """An expression with so many in it, itself counted, as flat as may be; there is none of two."""
    if many == 1:
        return ("me",)
    head = ("add",) if many % 2 else ("if", ONE)
    inner = many - len(head)
    half = inner // 2 | 1
    return (*head, of_size(half), of_size(inner - half))


def counted(thing):
    """How many expressions stand in one, itself counted, and how deep it is."""
    inner = [counted(part) for part in thing[1:] if isinstance(part, tuple)]
    return 1 + sum(many for many, _ in inner), 1 + max([deep for _, deep in inner], default=0)


class Checks(unittest.TestCase):
    def right(self, part, thing):
        program = Program(*arguments(part, thing))
        self.assertEqual([getattr(program, name) for name in PARTS], arguments(part, thing))

    def wrong(self, part, *things):
        error = raised(Program, *things)
        self.assertIs(error.__class__, BadProgram)
        self.assertEqual(error.part, part)

    def wrong_in(self, part, thing):
        self.wrong(part, *arguments(part, thing))


class Words(Checks):
    def test_each_word_where_it_may_stand(self):
        for part in PARTS:
            for word in WORDS:
                with self.subTest(part=part, word=word):
                    if word in BARRED[part]:
                        self.wrong_in(part, with_word(word))
                    else:
                        self.right(part, with_word(word))

    def test_each_word_within_each_word(self):
        for part in PARTS:
            for outer in (*OF_TWO, "if"):
                for word in WORDS:
                    for at in range(1, len(with_word(outer))):
                        thing = list(with_word(outer))
                        thing[at] = with_word(word)
                        if word in BARRED[part]:
                            self.wrong_in(part, tuple(thing))
                        else:
                            self.right(part, tuple(thing))

    def test_barred_words_deep_down(self):
        for part in PARTS:
            for word in BARRED[part]:
                self.wrong_in(part, chain(12, with_word(word)))

    def test_how_many_parts_each_word_has(self):
        for part in PARTS:
            for word in WORDS:
                if word not in BARRED[part]:
                    whole = with_word(word)
                    self.wrong_in(part, (*whole, ONE))
                    self.wrong_in(part, (*whole, 0))
                    self.wrong_in(part, (*whole, None))
                    if len(whole) > 1:
                        self.wrong_in(part, whole[:-1])
                        self.wrong_in(part, whole[:1])

    def test_other_words(self):
        for word in ("", "Me", "me ", " me", "ADD", "div", "not", "neg", "cells", "true", "numbers",
                     "start", "to", "say", "next", "number 1", "a" * 20000):
            for thing in ((word,), (word, 1), (word, ONE), (word, ONE, ONE), (word, ONE, ONE, ONE)):
                for part in PARTS:
                    self.wrong_in(part, thing)

    def test_heads_of_all_kinds(self):
        for head in [*no_tuples(), (), ("add",), ("me",), b"me", ["me"]]:
            if head != "many":
                for part in PARTS:
                    self.wrong_in(part, (head,))
            for part in PARTS:
                self.wrong_in(part, (head, ONE, ONE))
                self.wrong_in(part, (head, 1))

    def test_expressions_of_all_kinds(self):
        for thing in [*no_tuples(), (), ((),), (0,), (None,), ["me"], ["number", 1], "me",
                      (("me",),), ("add", ["me"], ["me"]), ("me",) * 5000]:
            for part in PARTS:
                self.wrong_in(part, thing)
                self.wrong_in(part, ("add", thing, ONE))
                self.wrong_in(part, ("add", ONE, thing))
                self.wrong_in(part, ("if", ONE, ONE, thing))
                self.wrong_in(part, chain(11, ("sub", thing, thing)))


class Numbers(Checks):
    def test_bounds(self):
        for part in PARTS:
            for n in (0, 1, -1, 2 ** 31 - 1, -2 ** 31):
                self.right(part, ("number", n))
                self.right(part, chain(12, ("number", n)))
            for n in (2 ** 31, -2 ** 31 - 1, 2 ** 32, 10 ** 20 - 1, 1 - 10 ** 20):
                self.wrong_in(part, ("number", n))
                self.wrong_in(part, chain(12, ("number", n)))

    def test_no_integers(self):
        for part in PARTS:
            for n in no_integers():
                self.wrong_in(part, ("number", n))
                self.wrong_in(part, ("mul", ("number", n), ONE))
            for n in (True, False):
                self.wrong_in(part, chain(12, ("number", n)))

    def test_cells(self):
        for many in range(1, 5):
            starts = (ONE,) * many
            for cell in range(many):
                now = ("cell", cell)
                Program(starts, now, ONE, starts)
                Program(starts, ONE, now, starts)
                Program(starts, ONE, ONE, (*starts[1:], now))
            for cell in (many, many + 1, 40, -1, 10 ** 20 - 1, *no_integers()):
                now = ("cell", cell)
                self.wrong("to", starts, now, ONE, starts)
                self.wrong("say", starts, ONE, now, starts)
                self.wrong("nexts", starts, ONE, ONE, (*starts[1:], now))
                self.wrong("nexts", starts, ONE, ONE, (now, *starts[1:]))
                self.wrong("nexts", starts, ONE, ONE, (chain(12, now), *starts[1:]))

    def test_no_cells_in_starts(self):
        for cell in (0, 1, True):
            self.wrong("starts", (ONE, ("cell", cell)), ONE, ONE, (ONE, ONE))


class Bounds(Checks):
    def test_depth(self):
        for part in PARTS:
            for deep in range(1, 13):
                self.right(part, chain(deep))
            for deep in (13, 14, 19):
                self.wrong_in(part, chain(deep))
            self.right(part, ("if", ONE, chain(11), chain(11)))
            self.wrong_in(part, ("if", ONE, chain(12), chain(11)))
            self.wrong_in(part, ("if", chain(11), chain(11), chain(12)))

    def test_depth_of_the_last_one_tells(self):
        for last in (("number", 5), ("many",), ("ties",)):
            for part in PARTS:
                self.right(part, chain(12, last))
                self.wrong_in(part, chain(13, last))

    def test_how_many(self):
        for many in (1, 3, 4, 5, 6, 7, 30, 57, 58, 59, 60):
            self.assertEqual(counted(of_size(many))[0], many)
            self.assertLessEqual(counted(of_size(many))[1], 12)
            for part in PARTS:
                self.right(part, of_size(many))
        for many in (61, 62, 63, 100, 200):
            self.assertEqual(counted(of_size(many))[0], many)
            self.assertLessEqual(counted(of_size(many))[1], 12)
            for part in PARTS:
                self.wrong_in(part, of_size(many))

    def test_sixty_in_each(self):
        rows = (of_size(60),) * 4
        self.assertEqual(Program(rows, rows[0], rows[0], rows).nexts, rows)
        self.wrong("nexts", rows, rows[0], rows[0], (*rows[:3], of_size(61)))

    def test_what_stands_in_two_places_counts_twice(self):
        thing = ("me",)
        for _ in range(5):
            thing = ("add", thing, thing)
        self.assertEqual(counted(thing), (63, 6))
        self.wrong_in("to", thing)
        self.right("to", thing[1])

    def test_deep_and_wide_things(self):
        for part in PARTS:
            self.wrong_in(part, chain(39))
            self.wrong_in(part, ("add", *[ONE] * 5000))
            self.wrong_in(part, ("add", (ONE,) * 5000, ONE))
            wide = ("me",)
            for _ in range(12):
                wide = ("add", wide, wide)
            self.wrong_in(part, wide)

    def test_how_many_starts(self):
        for many in range(1, 5):
            rows = tuple(("number", k) for k in range(many))
            program = Program(rows, ONE, ONE, rows)
            self.assertEqual((program.starts, program.nexts), (rows, rows))
        for many in (0, 5, 6, 5000):
            rows = (ONE,) * many
            self.wrong("starts", rows, ONE, ONE, rows)

    def test_how_many_nexts(self):
        for many in range(1, 5):
            for other in (0, 1, 2, 3, 4, 5, 5000):
                if other != many:
                    self.wrong("nexts", (ONE,) * many, ONE, ONE, (ONE,) * other)

    def test_starts_and_nexts_of_all_kinds(self):
        for thing in [*no_tuples(), [ONE], (), ONE, ("me",)]:
            self.wrong("starts", thing, ONE, ONE, (ONE,))
            self.wrong("nexts", (ONE,), ONE, ONE, thing)
        for thing in ([ONE, ONE], {0: ONE, 1: ONE}, "ab"):
            self.wrong("nexts", (ONE, ONE), ONE, ONE, thing)

    def test_each_of_starts_and_nexts_is_asked(self):
        for at in range(4):
            rows = [ONE] * 4
            rows[at] = ("other",)
            self.wrong("starts", tuple(rows), ONE, ONE, (ONE,) * 4)
            self.wrong("nexts", (ONE,) * 4, ONE, ONE, tuple(rows))


class Order(Checks):
    def test_the_first_part_that_is_none(self):
        good = [(ONE,), ONE, ONE, (ONE,)]
        for mask in range(1, 16):
            bad = [(), ("number", 2 ** 31), ("heard",), (("other",),)]
            things = [bad[k] if mask >> k & 1 else good[k] for k in range(4)]
            first = [PARTS[k] for k in range(4) if mask >> k & 1][0]
            self.wrong(first, *things)

    def test_two_wrong_parts(self):
        self.wrong("starts", (), ("cell", 0), ("cell", 0), ())
        self.wrong("starts", [ONE], None, None, None)
        self.wrong("to", (ONE,), ("cell", 1), ("cell", 1), (("cell", 1),))
        self.wrong("say", (ONE,), ("other",), ("sum",), (ONE, ONE))


class Equality(Checks):
    def test_equal_if_all_are(self):
        parts = [(("me",), ONE), ("other",), ("cell", 1), (("sum",), ("round",))]
        others = [(("me",), ("me",)), ("me",), ("cell", 0), (("sum",), ("sum",))]
        self.assertTrue(Program(*parts) == Program(*parts))
        self.assertFalse(Program(*parts) != Program(*parts))
        for mask in range(1, 16):
            things = [others[k] if mask >> k & 1 else parts[k] for k in range(4)]
            self.assertFalse(Program(*parts) == Program(*things))
            self.assertTrue(Program(*parts) != Program(*things))

    def test_equal_to_nothing_else(self):
        program = small_program()
        parts = (program.starts, program.to, program.say, program.nexts)
        for thing in [*no_integers(), *no_tuples(), parts, list(parts)]:
            if not isinstance(thing, Program):
                self.assertFalse(program == thing)
                self.assertTrue(program != thing)

    def test_equal_to_nothing_that_is_like_it(self):
        class Like:
            def __init__(self, program):
                self.__dict__.update(vars(program))

            def __eq__(self, other):
                return True

        self.assertFalse(small_program() == Like(small_program()))

    def test_what_is_passed_is_not_changed(self):
        starts = [ONE, ["me"]]
        self.wrong("starts", starts, [], {}, [starts])
        self.assertEqual(starts, [ONE, ["me"]])

    def test_any_expressions(self):
        chance = random.Random(5)
        for _ in range(300):
            starts = tuple(grown(chance, BARRED["starts"], 4) for _ in range(chance.randint(1, 4)))
            to, say = grown(chance, BARRED["to"], 4), grown(chance, BARRED["say"], 4)
            nexts = tuple(grown(chance, BARRED["nexts"], 4) for _ in starts)
            sizes = [max(counted(e)[0] for e in part) for part in (starts, (to,), (say,), nexts)]
            large = [name for name, size in zip(PARTS, sizes) if size > 60]
            if large:
                self.wrong(large[0], starts, to, say, nexts)
            else:
                self.assertEqual(Program(starts, to, say, nexts), Program(starts, to, say, nexts))


def grown(chance, barred, deep):
    """Any expression without barred words, at most so many deep."""
    words = [word for word in WORDS if word not in barred]
    if deep == 1:
        words = [word for word in words if word in ALONE or word == "number"]
    word = chance.choice(words)
    whole = with_word(word)
    if word in OF_TWO or word == "if":
        return (word, *[grown(chance, barred, deep - 1) for _ in whole[1:]])
    return whole


if __name__ == "__main__":
    unittest.main()
