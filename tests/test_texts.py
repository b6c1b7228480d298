"""Texts [11.1]."""

import random
import unittest

from sameround.errors import BadKeeper, BadProgram, BadText, BadWeb, NoNumber, TooMany
from sameround.keepers import Course, Keeper, alpha, beta, gamma
from sameround.known import least_program, tree_program, walk_program
from sameround.programs import Program
from sameround.texts import (
    course_text, keeper_text, program_text, read_course, read_keeper, read_program, read_web, web_text)
from sameround.webs import Web

from tests import lasting
from tests.helpers import full, no_integers, no_tuples, programs, raised, ring, row, small_program, webs
from tests.test_states import keepers

WEB = "houses 3\ntie 0 1\ntie 1 2\n"
KEEPER = WEB + "leader\nparent 0\nleader\nchosen 1 2\n"
PROGRAM = "start me\nto number 1\nsay cell 0\nnext min cell 0 least\n"
COURSE = KEEPER + PROGRAM + "goal 2\n"
READERS = ((read_web, WEB), (read_keeper, KEEPER), (read_program, PROGRAM), (read_course, COURSE))

# One expression with each word, and with numbers of each size.
WORDS = [("me",), ("many",), ("ties",), ("round",), ("other",), ("heard",), ("sum",), ("least",), ("most",),
         *[(word, ("number", 5), ("many",)) for word in
           ("add", "sub", "mul", "min", "max", "less", "same", "and", "or", "rest")],
         ("if", ("me",), ("number", -1), ("ties",)), ("cell", 0), ("cell", 3),
         *[("number", n) for n in (0, 1, -1, 10, -10, 2 ** 31 - 1, -2 ** 31)],
         ("if", ("add", ("me",), ("mul", ("number", 0), ("me",))), ("if", ("me",), ("me",), ("many",)), ("rest", ("ties",), ("me",)))]


def with_word(expression):
    """A program with an expression where it may stand."""
    starts = (("number", 7),) * 4
    nexts = (expression,) * 4 if expression != ("other",) else starts
    to = expression if expression[0] not in ("heard", "sum", "least", "most") else ("me",)
    return Program(starts, to, to, nexts)


class Writes(unittest.TestCase):
    def test_by_hand(self):
        web = row(3)
        self.assertEqual(web_text(web), WEB)
        self.assertEqual(web_text(Web(1, ())), "houses 1\n")
        keeper = Keeper(web, (None, 0, None), ((1, 2),))
        self.assertEqual(keeper_text(keeper), KEEPER)
        self.assertEqual(program_text(small_program()), PROGRAM)
        self.assertEqual(course_text(Course(small_program(), keeper, 2)), COURSE)
        self.assertEqual(program_text(Program((("add", ("number", 0), ("number", -1)), ("me",)), ("cell", 0), ("cell", 1),
                                              (("add", ("cell", 0), ("number", -1)), ("sum",)))),
                         "start add number 0 number -1\nstart me\nto cell 0\nsay cell 1\nnext add cell 0 number -1\nnext sum\n")


class ThereAndBack(unittest.TestCase):
    def check(self, write, read, thing):
        text = write(thing)
        back = read(text)
        self.assertEqual(back, thing)
        self.assertEqual(write(back), text)

    def test_webs(self):
        for web in webs():
            self.check(web_text, read_web, web)
        for many in range(1, 41):
            self.check(web_text, read_web, ring(many) if many > 2 else row(many))

    def test_programs(self):
        for program in [*programs(), tree_program(3), least_program(), walk_program(39), *map(with_word, WORDS)]:
            self.check(program_text, read_program, program)
        deep = ("me",)
        for _ in range(11):
            deep = ("add", ("number", -5), deep)
        self.check(program_text, read_program, Program((deep,), deep, deep, (deep,)))

    def test_keepers(self):
        for web in webs():
            for keeper in (alpha(web), beta(web), gamma(web, 2), gamma(web, 5)):
                self.check(keeper_text, read_keeper, keeper)

    def test_courses(self):
        for at, keeper in enumerate(keepers()):
            for goal in (0, 3, 40):
                course = Course(programs()[at % 4], keeper, goal)
                self.check(course_text, read_course, course)
                self.assertEqual(course_text(course), lasting.course_text(course))

    def test_what_is_read_has_just_this_text(self):
        chance = random.Random(11)
        many_read = 0
        for read, text in READERS:
            write = {read_web: web_text, read_keeper: keeper_text, read_program: program_text, read_course: course_text}[read]
            for _ in range(3000):
                at = chance.randrange(len(text))
                other = text[:at] + chance.choice(["", "0", "1", "2", " ", "\n", "-", "me", "9"]) + text[at + chance.randint(0, 2):]
                wrong = raised(read, other)
                if wrong is None:
                    many_read += 1
                    self.assertEqual(write(read(other)), other)
                else:
                    self.assertIn(wrong.__class__, (BadText, BadWeb, BadKeeper, BadProgram, TooMany, NoNumber))
        self.assertGreater(many_read, 300)


class BadTexts(unittest.TestCase):
    def check(self, read, text, line):
        wrong = raised(read, text)
        self.assertIs(wrong.__class__, BadText, text)
        self.assertEqual(wrong.line, line, text)

    def test_no_strings(self):
        for read, _ in READERS:
            for thing in [*no_integers(), *no_tuples()]:
                if not isinstance(thing, str):
                    self.check(read, thing, 0)

    def test_texts_cut_short(self):
        for read, text in READERS:
            for many in range(len(text)):
                # What is left may be a whole text, where only ties or chosen ties lack.
                wrong = raised(read, text[:many])
                if wrong is None or wrong.__class__ is not BadText:
                    self.assertEqual(text[many - 1], "\n")
                else:
                    self.assertEqual(wrong.line, text[:many].count("\n") + 1)
            self.assertIsNone(raised(read, text))
            self.check(read, text[:-1], text.count("\n"))
            self.check(read, text + " ", text.count("\n") + 1)
            self.check(read, text + "tie 1 2", text.count("\n") + 1)

    def test_a_line_missing(self):
        for text, read, lines in ((WEB, read_web, {0: 1}), (PROGRAM, read_program, {0: 1, 1: 2, 2: 3, 3: 4}),
                                  (KEEPER, read_keeper, {0: 1, 3: 6, 4: 6, 5: 6}),
                                  (COURSE, read_course, {0: 1, 3: 6, 4: 6, 5: 6, 7: 8, 8: 9, 9: 10, 10: 11, 11: 12})):
            rows = text.splitlines(keepends=True)
            for at, line in lines.items():
                self.check(read, "".join(rows[:at] + rows[at + 1:]), line)
        self.check(read_course, KEEPER + PROGRAM, 12)
        self.check(read_keeper, WEB, 4)
        self.check(read_keeper, WEB + "leader\nparent 0\n", 6)

    def test_a_line_doubled(self):
        for text, read, lines in ((WEB, read_web, {0: 2}), (PROGRAM, read_program, {1: 3, 2: 4}),
                                  (KEEPER, read_keeper, {0: 2, 3: 7, 5: 7}), (COURSE, read_course, {0: 2, 4: 7, 8: 10, 9: 11, 11: 13})):
            rows = text.splitlines(keepends=True)
            for at, line in lines.items():
                self.check(read, "".join(rows[:at + 1] + rows[at:]), line)
        self.assertEqual(raised(read_web, WEB + "tie 1 2\n").part, 2)
        self.assertEqual(raised(read_program, "start me\n" + PROGRAM).part, "nexts")

    def test_lines_turned_about(self):
        self.check(read_web, "tie 0 1\nhouses 3\ntie 1 2\n", 1)
        self.check(read_program, "to number 1\nstart me\nsay cell 0\nnext least\n", 1)
        self.check(read_program, "start me\nsay cell 0\nto number 1\nnext least\n", 2)
        self.check(read_program, "start me\nto number 1\nnext least\nsay cell 0\n", 3)
        self.check(read_program, "start me\nto me\nsay me\nnext me\nstart me\n", 5)
        self.check(read_keeper, "houses 2\nleader\nparent 0\ntie 0 1\n", 4)
        self.check(read_keeper, "houses 2\nleader\ntie 0 1\nparent 0\n", 3)
        self.check(read_keeper, WEB + "leader\nchosen 1 2\nparent 0\nleader\n", 5)
        self.check(read_course, PROGRAM + KEEPER + "goal 2\n", 1)
        self.check(read_course, "goal 2\n" + KEEPER + PROGRAM, 1)
        self.check(read_course, KEEPER + "goal 2\n" + PROGRAM, 8)

    def test_other_lines(self):
        for line in ("", " ", "Houses 3", "houses", "houses 3 3", "houses  3", " houses 3", "houses 3 ", "houses three", "houses -1",
                     "houses 03", "houses 00", "houses +3", "houses 3.", "houses 1_0", "houses 12345678901", "house 3", "houses3",
                     "houses\t3", "#", "tie 0 1", "web 3", "houses 0x3", "houses "):
            self.check(read_web, line + "\ntie 0 1\n", 1)
            self.check(read_keeper, line + "\n", 1)
            self.check(read_course, line + "\n", 1)
        for line in ("", "tie", "tie 0", "tie 1 2 3", "tie 1  2", "tie 1 2 ", " tie 1 2", "tie 1 -2", "tie 01 2", "tie 1 02", "ties 1 2",
                     "tie a b", "tie 1 12345678901", "houses 3", "leader", "tie 1,2", "TIE 1 2"):
            self.check(read_web, "houses 3\ntie 0 1\n" + line + "\n", 3)
        for line in ("", "leader ", " leader", "leader 1", "Leader", "parent", "parent  0", "parent 0 1", "parent -1", "parent 00",
                     "parent None", "parent 12345678901", "leaders", "tie 1 2 3", "chosen 1 2"):
            self.check(read_keeper, WEB + "leader\n" + line + "\nleader\n", 5)
        for line in ("", "chosen", "chosen 1", "chosen 1 2 3", "chosen  1 2", "chosen 1 2 ", "chosen 1 02", "chosen a 2", "goal 2"):
            self.check(read_keeper, KEEPER + line + "\n", 8)
        for line in ("", "goal", "goal 1 2", "goal -1", "goal 02", "goal  2", "goal 2 ", "goal 12345678901", "Goal 2", "goal two"):
            self.check(read_course, KEEPER + PROGRAM + line + "\n", 12)

    def test_other_expressions(self):
        for words in ("", " ", "you", "me me", "me 1", "number", "number number", "number 1 2", "number 01", "number -0", "number -01",
                      "number +1", "number --1", "number -", "number 2147483648", "number -2147483649", "number 12345678901", "5",
                      "cell", "cell -1", "cell 00", "cell 12345678901", "cell me", "number me", "add", "add me", "add me me me",
                      "add me  me", "add me add me", "add (me) me", "if me me", "if me me me me", "me ", " me", "ADD me me", "add 1 2",
                      "if add me me", "add number 1", "not me", "number 1 me", "add number cell 0", "add me number", "cell cell 0",
                      "number cell", "add me 5", "5 me", "add 5 me number 1"):
            for at, word in enumerate(("start", "to", "say", "next"), 1):
                lines = PROGRAM.splitlines(keepends=True)
                lines[at - 1] = f"{word} {words}\n"
                self.check(read_program, "".join(lines), at)
                lines[at - 1] = f"{word}s {words}\n"
                self.check(read_program, "".join(lines), at)

    def test_the_first_of_several(self):
        self.check(read_web, "houses 3\ntie 0 1 2\ntie\n", 2)
        self.check(read_web, "houses 99\ntie 5 5\nx\ny", 3)
        self.check(read_web, "houses 3\ntie 0 1\ntie 1 2", 3)
        self.check(read_web, "", 1)
        self.check(read_web, "\n", 1)
        self.check(read_web, "houses 3", 1)
        self.check(read_keeper, "houses 9999999999\nleader\nleader\n", 4)
        self.check(read_keeper, "houses 0\nleader\n", 2)
        self.check(read_course, COURSE[:-1], 12)

    def test_bad_texts_are_ahead_of_what_they_tell(self):
        self.check(read_web, "houses 0\ntie 3 3\n\n", 3)
        self.check(read_program, "start cell 0\nto heard\nsay heard\n", 4)
        self.check(read_course, "houses 0\nstart cell 5\nto heard\nsay me\nnext me\ngoal 99", 6)


class BehindTexts(unittest.TestCase):
    def check(self, read, text, kind, **fields):
        wrong = raised(read, text)
        self.assertIs(wrong.__class__, kind)
        self.assertEqual(vars(wrong), fields)

    def test_bad_webs(self):
        for read, more in ((read_web, ""), (read_keeper, "leader\n" * 3)):
            self.check(read, "houses 3\ntie 0 1\n" + more, BadWeb, part="joined")
            self.check(read, "houses 3\ntie 0 1\ntie 2 1\n" + more, BadWeb, part=1)
            self.check(read, "houses 3\ntie 0 9999999999\n" + more, BadWeb, part=0)
            self.check(read, "houses 3\ntie 1 2\ntie 0 1\n" + more, BadWeb, part=1)
        self.check(read_web, "houses 0\n", BadWeb, part="many")
        self.check(read_keeper, "houses 0\n", BadWeb, part="many")
        self.check(read_web, "houses 41\n", BadWeb, part="many")
        self.check(read_web, "houses 9999999999\ntie 0 0\n", BadWeb, part="many")
        self.check(read_keeper, "houses 41\n" + "leader\n" * 41, BadWeb, part="many")

    def test_bad_keepers(self):
        self.check(read_keeper, WEB + "parent 1\nparent 0\nleader\n", BadKeeper, part="parents")
        self.check(read_keeper, WEB + "leader\nparent 9999999999\nleader\n", BadKeeper, part="parents")
        self.check(read_keeper, WEB + "leader\nparent 0\nleader\n", BadKeeper, part="chosen")
        self.check(read_keeper, KEEPER + "chosen 1 2\n", BadKeeper, part="chosen")
        self.check(read_keeper, WEB + "parent 2\nleader\nleader\nchosen 0 5\n", BadKeeper, part="parents")

    def test_bad_programs(self):
        self.check(read_program, "start cell 0\nto me\nsay me\nnext me\n", BadProgram, part="starts")
        self.check(read_program, "start me\n" * 5 + "to me\nsay me\n" + "next me\n" * 5, BadProgram, part="starts")
        self.check(read_program, "start me\nto cell 1\nsay cell 9999999999\nnext me\n", BadProgram, part="to")
        self.check(read_program, "start me\nto me\nsay cell 9999999999\nnext other\n", BadProgram, part="say")
        self.check(read_program, "start me\nto me\nsay me\nnext other\n", BadProgram, part="nexts")
        self.check(read_program, "start me\nto me\nsay me\nnext me\nnext me\n", BadProgram, part="nexts")

    def test_expressions_that_are_too_deep_or_too_long(self):
        for many, kind in ((11, None), (12, BadProgram), (300, BadProgram), (2400, BadProgram)):
            wrong = raised(read_program, f"start {'add me ' * many}me\nto me\nsay me\nnext me\n")
            self.assertIs(wrong.__class__ if wrong else None, kind)
        long = "if me me me"
        for _ in range(6):
            long = f"add {long} me"
        self.assertIsNone(raised(read_program, f"start {long}\nto me\nsay me\nnext me\n"))
        self.check(read_program, "start me\nto me\nsay " + "add " * 2400 + "me " * 2400 + "me\nnext me\n", BadProgram, part="say")
        self.check(read_program, "start me\nto me\nsay me\nnext " + "add add me me " * 30 + "me\n", BadProgram, part="nexts")
        self.check(read_course, KEEPER + "start " + "if me me " * 2000 + "me\nto me\nsay me\nnext me\ngoal 2\n", BadProgram, part="starts")

    def test_courses(self):
        nine = keeper_text(beta(row(9)))
        self.check(read_course, nine + PROGRAM + "goal 99\n", TooMany, most=8)
        self.check(read_course, KEEPER + PROGRAM + "goal 41\n", NoNumber)
        self.check(read_course, KEEPER + PROGRAM + "goal 9999999999\n", NoNumber)
        self.assertEqual(read_course(KEEPER + PROGRAM + "goal 40\n").goal, 40)

    def test_their_order(self):
        bad_web, bad_keeper = "houses 3\ntie 0 1\n", WEB
        bad_program = "start me\nto heard\nsay me\nnext me\n"
        self.check(read_course, bad_web + "parent 0\n" * 3 + bad_program + "goal 99\n", BadWeb, part="joined")
        self.check(read_course, bad_keeper + "parent 0\n" * 3 + bad_program + "goal 99\n", BadKeeper, part="parents")
        self.check(read_course, keeper_text(beta(row(9))) + bad_program + "goal 99\n", BadProgram, part="to")
        self.check(read_course, keeper_text(beta(full(9))) + PROGRAM + "goal 99\n", TooMany, most=8)
        self.check(read_keeper, bad_web + "parent 0\n" * 3, BadWeb, part="joined")


if __name__ == "__main__":
    unittest.main()
