"""Desks [11.4]."""

import random
import unittest

from sameround.desks import Desk
from sameround.errors import (
    BadProgram, BadText, BadWeb, NoHouse, NoLine, NoName, NoNumber, TooMany)
from sameround.films import drawn
from sameround.glass import all_words, beats, broken, run_out
from sameround.keepers import Course, alpha, beta, clusters, depth, gamma, words_a_round
from sameround.lockstep import lockstep
from sameround.nets import Net, round_trip, settle
from sameround.texts import course_text, program_text, web_text
from sameround.webs import far, width

from tests.helpers import full, no_integers, no_tuples, programs, quiet_program, raised, ring, row, small_program
from tests.test_texts import PROGRAM, WEB

WEB_LINE = "web w " + WEB.replace("\n", "|")
PROGRAM_LINE = "program p " + PROGRAM.replace("\n", "|")
BEGIN = (WEB_LINE, PROGRAM_LINE, "keeper k w beta", "course c p k 2", "net n c")

# Every form of line, right by what BEGIN keeps, and its words that are numbers.
LINES = {
    "keeper x w alpha": (), "keeper x w beta": (), "keeper x w gamma 2": (4,), "course x p k 3": (4,), "net x c": (),
    "width w": (), "far w 0 2": (2, 3), "depth k": (), "words k": (), "parts k": (), "source c": (), "lock c 1 2": (2, 3),
    "all c": (), "beats c": (), "start n 0": (2,), "post n 0 1": (2, 3), "bring n 0": (2,), "lose n 0": (2,), "twice n 0": (2,),
    "fall n 0 3": (2, 3), "bag n": (), "trip n": (), "settle n 3": (2,), "rounds n": (), "cells n 1": (2,), "sums n": (), "view n": (),
}
OUT = "out c 3 1 4"


def desk(*lines):
    made = Desk()
    for line in (*BEGIN, *lines):
        assert made.tell(line) == "ok", line
    return made


class Watched:
    """A desk, and what tells whether something of it changed."""

    ASKED = ("width w", "far w 0 2", "depth k", "words k", "parts k", "source c", "all c", "beats c", "out c", "bag n", "rounds n",
             "cells n 0", "cells n 1", "cells n 2", "sums n", "view n")

    def __init__(self, *lines):
        self.desk = desk(*lines)

    def seen(self):
        return [self.desk.tell(line) for line in self.ASKED]


class Forms(unittest.TestCase):
    def check_no_lines(self, lines, *begin):
        watched = Watched(*begin)
        ahead = watched.seen()
        for line in lines:
            self.assertIs(raised(watched.desk.tell, line).__class__, NoLine, line)
            self.assertIs(raised(Desk().tell, line).__class__, NoLine, line)
        self.assertEqual(watched.seen(), ahead)

    def test_all_are_lines(self):
        for line in [*LINES, OUT, "out c"]:
            self.assertIsNone(raised(desk("start n 1", "post n 1 0").tell, line), line)

    def test_what_is_no_string(self):
        self.check_no_lines([*no_integers(), *no_tuples()])
        self.check_no_lines([["width", "w"], ("width", "w"), b"width w", {"width": "w"}])

    def test_a_word_left_out_or_one_more(self):
        lines = []
        for line in LINES:
            words = line.split(" ")
            lines.extend([" ".join(words[:at] + words[at + 1:]) for at in range(len(words))])
            lines.extend([line + " 1", line + " w", line + " |", "1 " + line])
        # An alpha without it would be a keeper of another form.
        self.check_no_lines(lines)
        self.check_no_lines(["out", "out 3", "out 3 1"])

    def test_another_word(self):
        lines = []
        for line, numbers in LINES.items():
            words = line.split(" ")
            for at, word in enumerate(words):
                for other in ("", "-1", "01", "12345678901", "A", "a1", "abcdefghi", "two", "1.", "+1", "W", "w_", "00", "-", "|", "1_0"):
                    # Any word of letters is a name.
                    if other == "two" and at not in numbers and at > 0 and word not in ("alpha", "beta", "gamma"):
                        continue
                    lines.append(" ".join([*words[:at], other, *words[at + 1:]]))
        for other in ("-1", "01", "12345678901", "a", "", "|", "1,2"):
            lines.extend([f"out c {other}", f"out c 1 {other}", f"out c {other} 1"])
        self.check_no_lines(lines)

    def test_blanks_and_line_feeds(self):
        lines = []
        for line in [*LINES, OUT, "out c"]:
            lines.extend([" " + line, line + " ", line + "\n", "\n" + line, line.replace(" ", "\n", 1), line.replace(" ", "\t", 1)])
            lines.extend([line[:at] + " " + line[at:] for at in range(len(line)) if line[at] == " "])
        self.check_no_lines([*lines, "", " ", "\n", "width", "help", "exit", "Width w", "WIDTH w", "width w; width w"])

    def test_lines_with_texts(self):
        lines = []
        for word in ("web", "program"):
            lines.extend([word, f"{word} ", f"{word} a", f"{word} a ", f"{word}  a houses 1|", f" {word} a houses 1|", f"{word} A houses 1|",
                          f"{word} abcdefghi houses 1|", f"{word} a1 houses 1|", f"{word}  houses 1|", f"{word} a houses 1|\n",
                          f"{word} a houses 1\n|", f"{word} 1 houses 1|", f"{word}s a houses 1|", f"{word}a houses 1|"])
        self.check_no_lines(lines)
        for text, line in ((" houses 1|", 1), ("houses 1| ", 2), ("houses 1", 1), ("x", 1), ("|", 1), (" ", 1), ("houses  1|", 1),
                           ("houses 1|houses 1|", 2), ("houses 2|tie 0 1|tie|", 3), ("houses 2|tie 0 1||", 3)):
            wrong = raised(Desk().tell, f"web a {text}")
            self.assertIs(wrong.__class__, BadText, text)
            self.assertEqual(wrong.line, line)

    def test_names(self):
        made = Desk()
        for name in ("a", "z", "abcdefgh", "web", "program", "alpha", "gamma"):
            self.assertEqual(made.tell(f"web {name} houses 1|"), "ok")
            self.assertEqual(made.tell(f"width {name}"), "0")
            self.assertEqual(made.tell(f"keeper {name} {name} alpha"), "ok")
            self.assertEqual(made.tell(f"parts {name}"), "0")
        for name in ("abcdefghi", "a-", "a.", "", "A", "aB", "a0", "0"):
            self.assertIs(raised(made.tell, f"web {name} houses 1|").__class__, NoLine)
            self.assertIs(raised(made.tell, f"width {name}").__class__, NoLine)


class Names(unittest.TestCase):
    def check(self, made, line, name):
        wrong = raised(made.tell, line)
        self.assertIs(wrong.__class__, NoName, line)
        self.assertEqual(wrong.name, name, line)

    def test_nothing_is_kept(self):
        for line in [*LINES, OUT, "out c"]:
            words = line.split(" ")
            at = 2 if words[0] in ("keeper", "course", "net") else 1
            self.check(Desk(), line, words[at])

    def test_each_sort_has_names_of_its_own(self):
        """What is kept under a name for one sort is none of another one."""
        sorts = {"w": 0, "p": 1, "k": 2, "c": 3, "n": 4}
        asked = {"width": "w", "far": "w", "depth": "k", "words": "k", "parts": "k", "source": "c", "lock": "c", "all": "c", "beats": "c",
                 "out": "c", "start": "n", "post": "n", "bring": "n", "lose": "n", "twice": "n", "fall": "n", "bag": "n", "trip": "n",
                 "settle": "n", "rounds": "n", "cells": "n", "sums": "n", "view": "n"}
        watched = Watched()
        ahead = watched.seen()
        for line in [*LINES, OUT]:
            words = line.split(" ")
            if words[0] in asked:
                for name in sorts:
                    if name != asked[words[0]]:
                        self.check(watched.desk, " ".join([words[0], name, *words[2:]]), name)
        for name in "pkcnz":
            self.check(watched.desk, f"keeper x {name} alpha", name)
            self.check(watched.desk, f"keeper x {name} gamma 99", name)
        for name in "wkcnz":
            self.check(watched.desk, f"course x {name} k 2", name)
            self.check(watched.desk, f"course x {name} zz 99", name)
        for name in "wpcnz":
            self.check(watched.desk, f"course x p {name} 99", name)
        for name in "wpknz":
            self.check(watched.desk, f"net x {name}", name)
        self.assertEqual(watched.seen(), ahead)
        # What was not kept is not there.
        for line in ("depth x", "source x", "bag x", "width x"):
            self.check(watched.desk, line, "x")

    def test_one_name_for_all_sorts(self):
        made = Desk()
        for line in (WEB_LINE.replace(" w ", " a ", 1), PROGRAM_LINE.replace(" p ", " a ", 1), "keeper a a gamma 2", "course a a a 2", "net a a"):
            self.assertEqual(made.tell(line), "ok")
        self.assertEqual([made.tell(line) for line in ("width a", "depth a", "all a", "bag a", "parts a")], ["2", "1", "28", "0", "0,1 2"])

    def test_elder_things_are_replaced(self):
        made = desk()
        source = made.tell("source c")
        self.assertEqual(made.tell("web w houses 4|tie 0 1|tie 1 2|tie 2 3|"), "ok")
        self.assertEqual((made.tell("width w"), made.tell("depth k"), made.tell("source c")), ("3", "2", source))
        self.assertEqual(made.tell("keeper k w beta"), "ok")
        self.assertEqual((made.tell("depth k"), made.tell("source c")), ("3", source))
        self.assertEqual(made.tell("program p start number 5|to me|say me|next sum|"), "ok")
        self.assertEqual(made.tell("source c"), source)
        self.assertEqual(made.tell("trip n"), "ok")
        self.assertEqual(made.tell("course c p k 1"), "ok")
        self.assertEqual(made.tell("lock c 0 3"), "5")
        self.assertEqual(made.tell("rounds n").count(" "), 2)
        self.assertEqual(made.tell("net n c"), "ok")
        self.assertEqual((made.tell("rounds n"), made.tell("cells n 3")), ("- - - -", "5"))

    def test_desks_are_apart(self):
        one, other = desk(), desk()
        one.tell("start n 0")
        self.assertEqual((one.tell("rounds n"), other.tell("rounds n")), ("0 - -", "- - -"))
        for thing in [*no_integers(), *no_tuples(), other]:
            self.assertFalse(one == thing)


class Answers(unittest.TestCase):
    def test_of_webs_keepers_and_courses(self):
        for at, web in enumerate((row(3), full(5), ring(8), row(1))):
            for keeper, rule in ((alpha(web), "alpha"), (beta(web), "beta"), (gamma(web, 2), "gamma 2"), (gamma(web, 8), "gamma 8")):
                program = programs()[at]
                course = Course(program, keeper, at + 2)
                made = Desk()
                for line in (f"web w {web_text(web)}", f"program p {program_text(program)}", f"keeper k w {rule}", f"course c p k {at + 2}"):
                    self.assertEqual(made.tell(line.replace("\n", "|")), "ok")
                self.assertEqual(made.tell("width w"), str(width(web)))
                for house in range(web.many):
                    self.assertEqual(made.tell(f"far w 0 {house}"), str(far(web, 0, house)))
                    for moment in (0, 1, 7, 40):
                        due = " ".join(map(str, lockstep(web, program, moment)[moment][house]))
                        self.assertEqual(made.tell(f"lock c {moment} {house}"), due)
                self.assertEqual(made.tell("depth k"), str(depth(keeper)))
                self.assertEqual(made.tell("words k"), str(words_a_round(keeper)))
                self.assertEqual(made.tell("parts k"), " ".join(",".join(map(str, lot)) for lot in clusters(keeper)))
                self.assertEqual(made.tell("source c"), course_text(course).replace("\n", "|"))
                self.assertEqual(made.tell("all c"), str(all_words(course)))
                self.assertEqual(made.tell("beats c"), str(beats(course)))
                for choices in ((), (5,), (1, 2, 9999999999, 0)):
                    self.assertEqual(made.tell(" ".join(map(str, ("out", "c", *choices)))), str(run_out(course, choices)[1]))

    def test_of_nets(self):
        made = desk()
        net = Net(Course(small_program(), beta(row(3)), 2))
        chance = random.Random(114)
        words = {"yes": 0, "no": 0}
        for at in range(400):
            word = chance.choice(["start", "post", "post", "bring", "lose", "twice", "fall", "trip"] if at % 60 else ["net"])
            one, other = chance.randrange(4), chance.randrange(4)
            if word == "net":
                self.assertEqual(made.tell("net n c"), "ok")
                net = Net(Course(small_program(), beta(row(3)), 2))
            elif word == "trip":
                if chance.random() < 0.1:
                    self.assertEqual(made.tell("trip n"), "ok")
                    round_trip(net)
            elif word == "fall":
                self.fall(made, net, one % 3, chance.randint(0, 500))
            else:
                deed, line = {"start": (("start", one), f"start n {one}"), "post": (("post", one, other), f"post n {one} {other}"),
                              "bring": (("bring", one), f"bring n {one}"), "lose": (("lose", one), f"lose n {one}"),
                              "twice": (("double", one), f"twice n {one}")}[word]
                can = raised(net.deed, deed) is None
                words["yes" if can else "no"] += 1
                self.assertEqual(made.tell(line), "ok" if can else "no")
            self.compare(made, net)
        self.assertGreater(min(words.values()), 50)
        self.assertEqual(made.tell("settle n 1000"), str(settle(net, 1000)))
        self.compare(made, net)
        self.assertEqual(made.tell("settle n 1000"), "0")
        self.assertEqual(made.tell("rounds n"), "2 2 2")

    def fall(self, made, net, house, left):
        disk = net.disk(house)
        kept, rest = [], left
        for block in disk.blocks()[disk.synced():]:
            kept.append(min(rest, len(block)))
            rest -= kept[-1]
        net.deed(("cut", house, tuple(kept)))
        self.assertEqual(made.tell(f"fall n {house} {left}"), "ok")

    def compare(self, made, net):
        course = Course(small_program(), beta(row(3)), 2)
        glass = net.glass()
        self.assertEqual(made.tell("bag n"), str(len(net.bag())))
        self.assertEqual(made.tell("rounds n"), " ".join("-" if state[0] == "asleep" else str(state[1]) for state in glass[0]))
        for house in range(3):
            self.assertEqual(made.tell(f"cells n {house}"), " ".join(map(str, glass[0][house][2])))
        self.assertEqual(broken(course, glass), ())
        self.assertEqual(made.tell("sums n"), "none")
        self.assertEqual(made.tell("view n"), drawn(course, glass).replace("\n", "|"))

    def test_falls(self):
        """Block by block, so many bytes in all of what waits."""
        course = Course(small_program(), beta(row(3)), 2)
        net = Net(course)
        for thing in (("start", 0), ("post", 0, 1), ("start", 1), ("bring", 0)):
            net.deed(thing)
        lengths = [len(block) for block in net.disk(1).blocks()[1:]]
        self.assertEqual(len(lengths), 2)
        for left, rounds, heard in ((0, "0 - -", False), (lengths[0] - 1, "0 - -", False), (lengths[0], "0 0 -", False),
                                    (sum(lengths) - 1, "0 0 -", False), (sum(lengths), "0 0 -", True), (9999999999, "0 0 -", True)):
            made = desk("start n 0", "post n 0 1", "start n 1", "bring n 0", f"fall n 1 {left}")
            self.assertEqual(made.tell("rounds n"), rounds)
            self.assertEqual("0>1: said.0.0|" not in made.tell("view n"), heard)
            self.assertEqual(made.tell("fall n 1 0"), "ok")
            self.assertEqual(made.tell("rounds n"), rounds)
        made = desk("start n 1", "post n 1 0")
        self.assertEqual(made.tell("fall n 1 0"), "ok")
        self.assertEqual(made.tell("rounds n"), "- 0 -")

    def test_falls_amid_three_blocks(self):
        lines = ("start n 0", "post n 0 1", "start n 2", "post n 2 1", "start n 1", "bring n 0", "bring n 0")
        deeds = (("start", 0), ("post", 0, 1), ("start", 2), ("post", 2, 1), ("start", 1), ("bring", 0), ("bring", 0))
        net = Net(Course(small_program(), beta(row(3)), 2))
        for thing in deeds:
            net.deed(thing)
        lengths = [len(block) for block in net.disk(1).blocks()[1:]]
        self.assertEqual((len(lengths), len(set(lengths[:2]))), (3, 2))
        for left in range(0, sum(lengths) + 9, 5):
            made, net = desk(*lines), Net(Course(small_program(), beta(row(3)), 2))
            for thing in deeds:
                net.deed(thing)
            self.fall(made, net, 1, left)
            self.compare(made, net)

    def test_a_walk_by_hand(self):
        made = desk()
        self.assertEqual(made.tell("view n"), "0 : asleep 0 0|1 : asleep 0 1|2 : asleep 0 2|")
        for line, answer in (("rounds n", "- - -"), ("start n 0", "ok"), ("start n 0", "no"), ("start n 3", "no"), ("post n 0 2", "no"),
                             ("post n 0 1", "ok"), ("bag n", "1"), ("twice n 0", "ok"), ("twice n 2", "no"), ("bag n", "2"), ("bring n 1", "ok"),
                             ("bring n 1", "no"), ("lose n 0", "ok"), ("lose n 0", "no"), ("bag n", "0"), ("rounds n", "0 - -"),
                             ("view n", "0 : says 0 0|1 : asleep 0 1|2 : asleep 0 2|1>0: got.0|"), ("settle n 0", "0"), ("trip n", "ok"),
                             ("settle n 1000", "2"), ("view n", "0 : over 2 0|1 : over 2 0|2 : over 2 0|"), ("sums n", "none"),
                             ("cells n 2", "0"), ("lock c 1 2", "1"), ("out c", "24"), ("all c", "24"), ("beats c", "12")):
            self.assertEqual(made.tell(line), answer, line)


class Errors(unittest.TestCase):
    def check(self, told, kind, *begin, **fields):
        watched = Watched(*begin)
        ahead = watched.seen()
        wrong = raised(watched.desk.tell, told)
        self.assertIs(wrong.__class__, kind, told)
        self.assertEqual(vars(wrong), fields)
        self.assertEqual(watched.seen(), ahead)

    def test_of_texts(self):
        self.check("web w houses 2|", BadWeb, part="joined")
        self.check("web w houses 41|", BadWeb, part="many")
        self.check("web x houses 2|tie 1 0|", BadWeb, part=0)
        self.check("web w houses 1", BadText, line=1)
        self.check("program p start me|to heard|say me|next me|", BadProgram, part="to")
        self.check("program p start me|", BadText, line=2)
        self.check("program p houses 1|", BadText, line=1)
        self.assertIs(raised(desk().tell, "width x").__class__, NoName)

    def test_of_keepers_and_courses(self):
        for k in (0, 1, 9, 9999999999):
            self.check(f"keeper k w gamma {k}", NoNumber)
        self.check("course c p k 41", NoNumber)
        nine = "web big " + web_text(row(9)).replace("\n", "|")
        self.check("course c p big 2", TooMany, nine, "keeper big big alpha", most=8)
        self.check("course c p big 99", TooMany, nine, "keeper big big alpha", most=8)

    def test_of_houses_and_numbers(self):
        for line in ("far w 3 0", "far w 0 3", "far w 9999999999 0", "lock c 1 3", "lock c 40 9999999999", "fall n 3 0", "fall n 3 5",
                     "cells n 3"):
            self.check(line, NoHouse)
        for line in ("lock c 41 0", "lock c 41 3", "lock c 9999999999 9999999999", "settle n 1001", "settle n 9999999999"):
            self.check(line, NoNumber)

    def test_what_cant_be_done(self):
        for line in ("start n 3", "start n 9999999999", "post n 0 2", "post n 0 0", "post n 3 0", "post n 0 3", "bring n 0", "lose n 0",
                     "twice n 0", "bring n 9999999999"):
            watched = Watched()
            ahead = watched.seen()
            self.assertEqual(watched.desk.tell(line), "no")
            self.assertEqual(watched.seen(), ahead)

    def test_lines_are_ahead_of_names_and_these_of_errors(self):
        self.check("far z 9 9 9", NoLine)
        self.check("far z 9 9", NoName, name="z")
        self.check("keeper z z gamma 99", NoName, name="z")
        self.check("keeper z z gamma", NoLine)
        self.check("settle z 1001", NoName, name="z")
        self.check("course z zz zzz 99", NoName, name="zz")
        self.check("course z p zzz 99", NoName, name="zzz")
        self.check("web abcdefghi x", NoLine)

    def test_cells_of_several(self):
        made = desk("program p " + program_text(quiet_program()).replace("\n", "|"), "course c p k 3", "net n c")
        self.assertEqual(made.tell("cells n 2"), "7 6")
        self.assertEqual(made.tell("lock c 0 2"), "7 6")
        self.assertEqual(made.tell("view n"), "0 : asleep 0 5 0|1 : asleep 0 6 3|2 : asleep 0 7 6|")


if __name__ == "__main__":
    unittest.main()
