"""Over the whole program [0.1] to [0.5]: the examples, things of all kinds, one course by all doors."""

import random
import unittest

from sameround import errors
from sameround.desks import Desk
from sameround.disks import Disk, kept_parcels
from sameround.errors import RoundError
from sameround.films import Reel, drawn, drawn_rounds, moves_of
from sameround.glass import (
    all_words, beats, broken, first_glass, is_glass, moved, moves, run_out)
from sameround.keepers import (
    Course, Keeper, alpha, beta, clusters, depth, gamma, is_keeper, leader_of, words_a_round)
from sameround.known import least_program, tree_program, walk_program
from sameround.links import Incoming, Outgoing, incoming_of, outgoing_of
from sameround.lockstep import lockstep, many_said, next_cells, sayings, start_cells
from sameround.nets import Net, led_by, round_trip, settle
from sameround.posts import Post, post_of
from sameround.programs import Program
from sameround.records import (
    Record, causes, cells_then, entered, first_wrong, longest_chain, on_way, recorded, vectors)
from sameround.rows import is_parcel, mark, parcel_of, row_of, sealed, unsealed
from sameround.savings import SavedHouse
from sameround.states import begun, heard, is_state, is_word, started
from sameround.texts import (
    course_text, keeper_text, program_text, read_course, read_keeper, read_program, read_web, web_text)
from sameround.webs import Web, far, neighbours, width

from tests import lasting
from tests.helpers import full, nested, no_integers, no_tuples, quiet_program, ring, row, small_program
from tests.test_nets import drawn_deed
from tests.test_posts import courses


def example():
    return Course(small_program(), beta(row(3)), 2)


def objects():
    """One of each class of the package."""
    course = example()
    made = [row(3), small_program(), beta(row(3)), course, recorded(course, ()), Outgoing(), Incoming(), Disk(),
            Post(course, 0), SavedHouse(course, 0, Disk()), Net(course), Reel(course, (), 1), Desk(), RoundError()]
    for name in dir(errors):
        kind = getattr(errors, name)
        if isinstance(kind, type) and kind is not RoundError:
            try:
                made.append(kind())
            except TypeError:
                made.append(kind(7))
    return made


def odd_things():
    """Things of all kinds, alone, in tuples and in lists."""
    plain = [*no_integers(), *no_tuples(), *objects(), 2, 3, 40, 41, 255, 256, 1000, 2 ** 31, 2 ** 32, -2, "said", "a b", "a\nb",
             ("start",), ("got", 0), ("said", 0, 0), ("house", 0, 0), ("past", ()), ("letter", 0, 1, 0, ()), ("start", 0),
             ("take", 0, 1), (0, 0, ()), ((), ()), ((), (), ()), (0, ()), nested(40, lambda parts: {0: parts[0]}),
             (True,) * 20000, ("a",) * 20000, [None] * 20000]
    return plain + [(thing,) for thing in plain] + [[thing] for thing in plain] + [(0, thing) for thing in plain]


class Judged:
    """A call with one argument left open, and the errors that its point names for it; none if it judges."""

    def __init__(self, call, *named):
        self.call, self.named = call, named


def judged():
    """All that an argument of any kind may be passed to."""
    course, web, keeper = example(), row(3), beta(row(3))
    program, state, glass = small_program(), begun(course, 1), first_glass(course)
    disk, post, net = Disk(), Post(course, 1), Net(course)
    reel, out, into = Reel(course, moves_of(course, ()), 5), Outgoing(), Incoming()
    saved, me = SavedHouse(course, 1, Disk()), ("me",)
    record = recorded(course, ())
    return [Judged(*item) for item in (
        (lambda x: Web(x, ()), "BadWeb"), (lambda x: Web(3, x), "BadWeb"), (lambda x: neighbours(web, x), "NoHouse"),
        (lambda x: far(web, x, 0), "NoHouse"), (lambda x: far(web, 0, x), "NoHouse"),
        (lambda x: Program(x, me, me, (me,)), "BadProgram"), (lambda x: Program((me,), x, me, (me,)), "BadProgram"),
        (lambda x: Program((me,), me, x, (me,)), "BadProgram"), (lambda x: Program((me,), me, me, x), "BadProgram"),
        (lambda x: start_cells(web, program, x), "NoHouse"), (lambda x: sayings(web, program, x, 0, (1,)), "NoHouse"),
        (lambda x: sayings(web, program, 0, x, (1,)), "NoNumber"), (lambda x: sayings(web, program, 0, 0, x), "NoCells"),
        (lambda x: next_cells(web, program, x, 0, (1,), ()), "NoHouse"), (lambda x: next_cells(web, program, 0, x, (1,), ()), "NoNumber"),
        (lambda x: next_cells(web, program, 0, 0, x, ()), "NoCells"), (lambda x: next_cells(web, program, 0, 0, (1,), x), "NoSayings"),
        (lambda x: lockstep(web, program, x), "NoNumber"), (lambda x: many_said(web, program, x), "NoNumber"),
        (tree_program, "NoNumber"), (walk_program, "NoNumber"), (lambda x: Keeper(web, x, ()), "BadKeeper"),
        (lambda x: Keeper(web, (None, 0, 1), x), "BadKeeper"), (lambda x: leader_of(keeper, x), "NoHouse"), (lambda x: gamma(web, x), "NoNumber"),
        (lambda x: is_keeper(web, x),), (lambda x: Course(program, keeper, x), "NoNumber"), (lambda x: begun(course, x), "NoHouse"),
        (is_word,), (lambda x: is_state(course, x, state), "NoHouse"), (lambda x: is_state(course, 1, x),),
        (lambda x: started(course, x, state), "NoHouse"), (lambda x: started(course, 1, x), "NotAsleep"),
        (lambda x: heard(course, x, state, 0, ("said", 0, 1)), "NoHouse", "NoWord"), (lambda x: heard(course, 1, state, x, ("said", 0, 1)), "NoHouse", "NoWord"),
        (lambda x: heard(course, 1, state, 0, x), "NoWord"), (lambda x: is_glass(course, x),), (lambda x: moves(course, x), "NoGlass"),
        (lambda x: moved(course, x, ("start", 0)), "NoGlass"), (lambda x: moved(course, glass, x), "NoMove"),
        (lambda x: broken(course, x), "NoGlass"), (lambda x: run_out(course, x), "NoChoices"), (lambda x: Record(web, program, x, ()), "NoNumber"),
        (lambda x: Record(web, program, 2, x), "BadRecord"), (lambda x: entered(record, x), "NoMoment"), (lambda x: cells_then(record, x), "NoMoment"),
        (lambda x: on_way(record, x), "NoMoment"), (lambda x: recorded(course, x), "NoChoices"), (lambda x: out.copy().known(x), "NoNumber"),
        (outgoing_of, "NoState"), (lambda x: into.copy().take(x, ()), "NoNumber"), (incoming_of, "NoState"), (row_of, "NoParcel"),
        (sealed, "NoParcel"), (parcel_of, "NoRow", "BadRow"), (is_parcel,), (mark, "NoRow"), (unsealed,), (lambda x: disk.copy().write(x), "NoRow"),
        (lambda x: disk.copy().cut(x), "NoCut"), (lambda x: disk.copy().drop(x), "NoNumber"), (kept_parcels, "NoBlocks"), (lambda x: Post(course, x), "NoHouse"),
        (lambda x: post.copy().deed(x), "NoDeed"), (lambda x: post.copy().deed(("hear", x)), "NoDeed"), (post.letter, "NoHouse"),
        (lambda x: post_of(course, x, post.past()), "NoHouse", "NoPast"), (lambda x: post_of(course, 1, x), "NoPast"),
        (lambda x: SavedHouse(course, x, Disk()), "NoHouse"), (lambda x: SavedHouse(course, 1, x), "NoDisk"), (lambda x: saved.copy().deed(x), "NoDeed"),
        (saved.letter, "NoHouse"), (saved.moved, "NoDisk"), (net.house, "NoHouse"), (net.disk, "NoHouse"), (lambda x: Net(course).deed(x), "NoDeed"),
        (lambda x: Net(course).deed(("start", x)), "NoDeed"), (lambda x: net.deed(("send", 0, x)), "NoDeed"), (lambda x: net.deed(("cut", 0, x)), "NoDeed"),
        (lambda x: led_by(Net(course), x), "BadDeeds"), (lambda x: settle(net, x), "NoNumber"), (lambda x: Reel(course, x, 5), "BadMoves"),
        (lambda x: Reel(course, (), x), "NoNumber"), (lambda x: reel.seek(x), "NoMoment"), (lambda x: moves_of(course, x), "NoChoices"),
        (lambda x: drawn(course, x), "NoGlass"), (lambda x: drawn_rounds(course, x), "BadMoves"), (lambda x: Desk().tell(x), "NoLine"),
        (read_web, "BadText"), (read_program, "BadText"), (read_keeper, "BadText"), (read_course, "BadText"))]


class Examples(unittest.TestCase):
    def test_all(self):
        web, program = Web(3, ((0, 1), (1, 2))), small_program()
        course = Course(program, beta(web), 2)
        self.assertEqual((neighbours(web, 1), far(web, 0, 2), width(web)), ((0, 2), 2, 2))
        self.assertEqual(lockstep(web, program, 2), [((0,), (1,), (2,)), ((0,), (0,), (1,)), ((0,), (0,), (0,))])
        self.assertEqual(many_said(web, program, 2), 8)
        self.assertEqual((gamma(web, 2).parents, gamma(web, 2).chosen), ((None, 0, None), ((1, 2),)))
        self.assertEqual([words_a_round(keeper) for keeper in (alpha(web), beta(web), gamma(web, 2))], [4, 4, 6])
        self.assertEqual(depth(beta(web)), 2)
        self.assertEqual(sayings(web, program, 1, 0, (5,)), ((0, 5), (2, 5)))
        self.assertEqual(next_cells(web, program, 1, 0, (5,), (7, 3)), (3,))
        self.assertEqual(started(course, 0, begun(course, 0)), (("says", 0, (0,), 1, (), (), (), ()), ((1, ("said", 0, 0)),)))
        self.assertEqual(heard(course, 2, begun(course, 2), 1, ("said", 0, 1)),
                         (("asleep", 0, (2,), 0, ((0, 1, 1),), (), (), ()), ((1, ("got", 0)),)))
        self.assertEqual((all_words(course), run_out(course, ())[1], beats(course)), (24, 24, 12))
        self.assertEqual(row_of((True, "a", 300)), (6, 3, 2, 5, 1, 97, 3, 172, 2))


class Things(unittest.TestCase):
    def test_no_other_error_comes_of_what_a_thing_is(self):
        things = odd_things()
        for at, item in enumerate(judged()):
            kinds = tuple(getattr(errors, name) for name in item.named)
            refused = 0
            for thing in things:
                try:
                    told = item.call(thing)
                except kinds:
                    refused += 1
                except Exception as wrong:
                    self.fail(f"{at} {item.named} {repr(thing)[:80]} {wrong!r}")
                else:
                    if not kinds:
                        refused += told in (False, ())
            self.assertGreater(refused, len(things) // 2, (at, item.named))

    def test_each_object_is_equal_to_nothing_of_another_kind(self):
        made = objects()
        for one in made:
            for other in [*no_integers(), *no_tuples(), *objects()]:
                if one.__class__ is not other.__class__:
                    self.assertFalse(one == other)
        for one, other in zip(made, objects()):
            if isinstance(one, (Web, Program, Keeper, Course, Record)):
                self.assertEqual(one, other)


class Again(unittest.TestCase):
    """Equal calls give equal answers, whatever was done to what was told."""

    def test_lists_are_new(self):
        course = example()
        out, disk, net, post = Outgoing(), Disk(), Net(course), Post(course, 0)
        out.put(("a",))
        disk.write((1,))
        led_by(net, [("start", 0), ("post", 0, 1)])
        for call in (lambda: lockstep(course.keeper.web, course.program, 2), out.waiting, disk.blocks, net.bag,
                     lambda: kept_parcels([sealed(1), sealed(2)]), lambda: Incoming().take(0, ("a",)),
                     lambda: led_by(Net(course), [("keep", 0)])):
            due = repr(call())
            call().append("more")
            call().clear()
            self.assertEqual(repr(call()), due)
        self.assertEqual(post.past(), Post(course, 0).past())

    def test_arguments_are_not_changed(self):
        course = example()
        choices, blocks, deeds = [3, 1], [sealed(1), (1,)], [("start", 0), ("keep", 1)]
        run_out(course, choices)
        moves_of(course, choices)
        recorded(course, choices)
        kept_parcels(blocks)
        led_by(Net(course), deeds)
        self.assertEqual((choices, blocks, deeds), ([3, 1], [sealed(1), (1,)], [("start", 0), ("keep", 1)]))

    def test_equal_calls(self):
        for at, course in enumerate(courses()):
            twin = read_course(course_text(course))
            for call in (lambda c: run_out(c, (5, at, 2)), lambda c: moves_of(c, (5, at, 2)), beats, all_words, course_text,
                         lambda c: recorded(c, (at,)).events, lambda c: drawn(c, run_out(c, (at,))[0]),
                         lambda c: Post(c, 0).past(), lambda c: SavedHouse(c, 0, Disk()).past(), lambda c: settle(Net(c), 1000)):
                self.assertEqual(call(course), call(twin))
                self.assertEqual(call(course), call(course))

    def test_nets_that_are_led_alike(self):
        for seed, course in enumerate(courses()[::3]):
            chance, one, deeds = random.Random(seed), Net(course), []
            for _ in range(80):
                deeds.append(drawn_deed(chance, one, good=True))
                try:
                    one.deed(deeds[-1])
                except RoundError:
                    deeds.pop()
            other = Net(read_course(course_text(course)))
            led_by(other, deeds)
            self.assertEqual((other.glass(), other.bag()), (one.glass(), one.bag()))
            for house in range(course.keeper.web.many):
                self.assertEqual(other.house(house).past(), one.house(house).past())
                self.assertEqual(other.disk(house).blocks(), one.disk(house).blocks())


class Doors(unittest.TestCase):
    """One course by all doors: all lead to the cells of lockstep."""

    def check(self, course, seed):
        web, chance = course.keeper.web, random.Random(seed)
        due = lockstep(web, course.program, course.goal)[-1]
        choices = [chance.randrange(50) for _ in range(400)]
        self.assertEqual(read_course(course_text(course)), course)
        self.assertEqual(read_keeper(keeper_text(course.keeper)), course.keeper)
        self.assertEqual(read_web(web_text(web)), web)
        self.assertEqual(read_program(program_text(course.program)), course.program)
        for twin in (course, read_course(course_text(course))):
            glass, takes = run_out(twin, choices)
            self.assertEqual((tuple(state[2] for state in glass[0]), takes), (due, all_words(course)))
            steps = first_glass(twin)
            for move in moves_of(twin, choices):
                self.assertIn(move, moves(twin, steps))
                steps = moved(twin, steps, move)
            self.assertEqual(steps, glass)
            film = moves_of(twin, choices)[:3000]
            reel = Reel(twin, film, 50)
            reel.seek(len(film))
            self.assertEqual(broken(twin, reel.glass_now()), ())
            self.assertEqual(reel.glass_now() == glass, len(film) == len(moves_of(twin, choices)))
            record = recorded(twin, choices)
            self.assertIsNone(first_wrong(record))
            self.assertEqual(cells_then(record, len(record.events)), due)
            self.assertEqual(len(vectors(record)), len(causes(record)))
            self.assertGreaterEqual(longest_chain(record), course.goal + 1)
            net = Net(twin)
            for _ in range(60):
                try:
                    net.deed(drawn_deed(chance, net, good=True))
                except RoundError:
                    pass
            round_trip(net)
            self.assertLessEqual(settle(net, 1000), beats(twin) + 1)
            self.assertEqual(net.glass(), glass)
        self.desk(course, due)

    def desk(self, course, due):
        made = Desk()
        text = course_text(course).split("goal")[0]
        program = program_text(course.program)
        self.assertTrue(text.endswith(program))
        self.assertEqual(made.tell("web w " + web_text(course.keeper.web).replace("\n", "|")), "ok")
        self.assertEqual(made.tell("program p " + program.replace("\n", "|")), "ok")
        rules = {rule: keeper for rule, keeper in (("alpha", alpha), ("beta", beta), ("gamma 2", lambda web: gamma(web, 2)))
                 if keeper(course.keeper.web) == course.keeper}
        for rule in rules:
            for line in (f"keeper k w {rule}", f"course c p k {course.goal}", "net n c"):
                self.assertEqual(made.tell(line), "ok")
            self.assertEqual(made.tell("source c"), course_text(course).replace("\n", "|"))
            self.assertLessEqual(int(made.tell("settle n 1000")), int(made.tell("beats c")) + 1)
            self.assertEqual(made.tell("out c 4 1"), made.tell("all c"))
            for house, cells in enumerate(due):
                self.assertEqual(made.tell(f"cells n {house}"), " ".join(map(str, cells)))
                self.assertEqual(made.tell(f"lock c {course.goal} {house}"), " ".join(map(str, cells)))

    def test_courses(self):
        for seed, course in enumerate(courses()):
            self.check(course, seed)

    def test_known_programs(self):
        web = ring(7)
        for seed, program in enumerate((tree_program(3), least_program(), walk_program(6))):
            for keeper in (alpha(web), beta(web), gamma(web, 2)):
                course = Course(program, keeper, width(web) + seed)
                self.check(course, seed)
        self.assertEqual(lockstep(web, tree_program(3), 3)[-1], ((3, 1), (2, 2), (1, 3), (0, -1), (1, 3), (2, 4), (3, 5)))
        self.assertEqual(clusters(beta(web)), (tuple(range(7)),))

    def test_eight_houses_and_forty_rounds(self):
        for keeper in (beta(row(8)), gamma(full(8), 3)):
            self.check(Course(quiet_program(), keeper, 40), 7)
        self.assertEqual(lasting.course_text(example()), course_text(example()))


if __name__ == "__main__":
    unittest.main()
