"""Posts [9.1]."""

import random
import unittest

from sameround.errors import NoDeed, NoHouse, NoPast
from sameround.glass import all_words
from sameround.keepers import Course, Keeper, alpha, beta, gamma
from sameround.lockstep import lockstep
from sameround.posts import Post, post_of
from sameround.rows import sealed, unsealed
from sameround.webs import Web, neighbours

from tests import lasting
from tests.helpers import (
    full, grown, no_integers, no_tuples, programs, quiet_program, raised, ring, row, small_program, star)


def courses():
    """Courses on webs of 1 to 6 houses, under alpha, beta and gamma."""
    made = []
    for web in (Web(1, ()), row(2), row(3), full(4), star(5), grown(6, 3, 4), ring(6)):
        for keeper in (alpha(web), beta(web), gamma(web, 2)):
            made.append(Course(programs()[len(made) % 4], keeper, (2, 3, 1, 5, 0, 4)[len(made) % 6]))
    made.append(Course(quiet_program(), Keeper(row(4), (1, 2, 3, None), ()), 3))
    made.append(Course(quiet_program(), Keeper(full(5), (4, None, 1, None, None), ((0, 3), (1, 3), (2, 4))), 3))
    return made


def example():
    return Course(small_program(), beta(row(3)), 2)


def seen(post):
    return lasting.strict(post.past())


class Town:
    """Posts, and beside each of them its second account; letters of all of them in one bag."""

    def __init__(self, test, course, chance):
        self.test, self.course, self.chance = test, course, chance
        self.houses = range(course.keeper.web.many)
        self.posts = [Post(course, house) for house in self.houses]
        self.doubles = [lasting.Post(course, house) for house in self.houses]
        self.bag = []
        self.told = {"none": 0, "old": 0, "new": 0}

    def start(self, house):
        if self.doubles[house].start():
            self.test.assertIsNone(self.posts[house].deed(("start",)))
        else:
            self.test.assertIs(raised(self.posts[house].deed, ("start",)).__class__, NoDeed)
        self.compare(house)

    def letter(self, house, to):
        told = self.posts[house].letter(to)
        self.test.assertEqual(told, lasting.sealed(self.doubles[house].letter(to)))
        self.compare(house)
        return told

    def hear(self, house, letter):
        ahead = seen(self.posts[house])
        told = self.posts[house].deed(("hear", letter))
        self.test.assertEqual(told, self.doubles[house].hear(letter))
        self.told[told] += 1
        self.compare(house)
        self.test.assertEqual(told == "new", seen(self.posts[house]) != ahead)
        return told

    def compare(self, house):
        self.test.assertEqual(seen(self.posts[house]), lasting.strict(self.doubles[house].past()))
        self.test.assertEqual(self.posts[house].state(), self.doubles[house].state)

    def step(self):
        """Something that can happen to letters."""
        chance, house = self.chance, self.chance.choice(self.houses)
        beside = neighbours(self.course.keeper.web, house)
        word = chance.choice(["start", "post", "post", "bring", "bring", "bring", "lose", "double", "other", "spoil", "forge"])
        if word == "start":
            self.start(house)
        elif word == "post" and beside:
            to = chance.choice(beside)
            self.bag.append((to, self.letter(house, to)))
        elif word == "bring" and self.bag:
            self.hear(*self.bag.pop(chance.randrange(len(self.bag))))
        elif word == "lose" and len(self.bag) > 5:
            self.bag.pop(chance.randrange(len(self.bag)))
        elif word == "double" and self.bag:
            self.hear(*chance.choice(self.bag))
        elif word == "other" and self.bag:
            self.hear(house, chance.choice(self.bag)[1])
        elif word == "spoil" and self.bag:
            to, letter = chance.choice(self.bag)
            at = chance.randrange(len(letter))
            self.hear(to, (*letter[:at], letter[at] ^ (1 << chance.randrange(8)), *letter[at + 1:]))
        elif word == "forge" and beside:
            # With no more known than is true, so that nothing that was told is lost.
            to = chance.choice(beside)
            _, _, _, taken, items = unsealed(self.letter(house, to))[0]
            items = [item for item in items if chance.random() < 0.8]
            chance.shuffle(items)
            self.hear(to, sealed(("letter", house, to, chance.randint(0, taken), tuple(items))))

    def finish(self):
        """Letters that come, until all are over and nothing waits."""
        for house in self.houses:
            if self.posts[house].state()[0] == "asleep":
                self.start(house)
        for _ in range(2000):
            calm = True
            for house in self.houses:
                for to in neighbours(self.course.keeper.web, house):
                    calm = self.hear(to, self.letter(house, to)) == "old" and calm
            if calm:
                return
        self.test.fail("no end")


class Runs(unittest.TestCase):
    def test_against_a_second_account(self):
        told = {"none": 0, "old": 0, "new": 0}
        for seed, course in enumerate(courses()):
            for more in (0, 100):
                town = Town(self, course, random.Random(seed + more))
                for _ in range(250):
                    town.step()
                town.finish()
                rows = lockstep(course.keeper.web, course.program, course.goal)
                self.assertEqual(tuple(post.state()[2] for post in town.posts), rows[-1])
                self.assertEqual({post.state()[:2] for post in town.posts}, {("over", course.goal)})
                put = [len(words) for double in town.doubles for words in double.put.values()]
                self.assertEqual(sum(put), all_words(course))
                for word in told:
                    told[word] += town.told[word]
        self.assertGreater(min(told.values()), 300)

    def test_more_than_twenty_wait(self):
        course = Course(small_program(), alpha(row(2)), 30)
        town = Town(self, course, random.Random(1))
        town.start(0)
        town.start(1)
        for _ in range(30):
            for house in (0, 1):
                # What is taken is not told, so all words go on waiting.
                _, _, _, _, items = unsealed(town.letter(house, 1 - house))[0]
                town.hear(1 - house, sealed(("letter", house, 1 - house, 0, items)))
        waiting = town.posts[0].past()[1][0][1]
        self.assertGreater(len(waiting), 20)
        self.assertEqual(town.posts[0].past()[1][0][0], 0)
        self.assertEqual(unsealed(town.letter(0, 1))[0][4], tuple(enumerate(waiting))[:20])
        self.assertEqual(town.hear(1, town.letter(0, 1)), "new")
        self.assertEqual(town.hear(1, town.letter(0, 1)), "old")
        town.finish()
        self.assertEqual(town.posts[0].state()[:2], ("over", 30))

    def test_words_that_come_in_any_order(self):
        past = (("says", 0, (0,), 1, (), (), (), ()), ((5, (("said", 0, 0),)),), ((0, ()),))
        course = Course(small_program(), beta(row(2)), 2)
        words = [("said", 0, 1), ("got", 0), ("up", 0)]
        for order in ((0, 1, 2), (2, 1, 0), (1, 0, 2), (1, 2, 0)):
            post, double = post_of(course, 0, past), lasting.Post(course, 0, past)
            for at in order:
                letter = sealed(("letter", 1, 0, 0, ((at, words[at]),)))
                self.assertEqual(post.deed(("hear", letter)), "new")
                self.assertEqual(double.hear(letter), "new")
                self.assertEqual(seen(post), lasting.strict(double.past()))
            self.assertEqual(post.state()[:2], ("says", 1))


class Begins(unittest.TestCase):
    def test_a_new_post(self):
        post = Post(example(), 1)
        asleep = ("asleep", 0, (1,), 0, (), (), (), ())
        self.assertEqual(post.state(), asleep)
        self.assertEqual(post.past(), (asleep, ((0, ()), (0, ())), ((0, ()), (0, ()))))
        self.assertEqual(post.letter(2), sealed(("letter", 1, 2, 0, ())))
        self.assertIsNone(post.deed(("start",)))
        self.assertEqual(post.past(), (("says", 0, (1,), 2, (), (), (), ()),
                                       ((0, (("said", 0, 1),)), (0, (("said", 0, 1),))), ((0, ()), (0, ()))))
        self.assertEqual(post.letter(2), sealed(("letter", 1, 2, 0, ((0, ("said", 0, 1)),))))

    def test_a_post_alone(self):
        post = Post(Course(small_program(), beta(Web(1, ())), 7), 0)
        self.assertEqual(post.past()[1:], ((), ()))
        self.assertIsNone(post.deed(("start",)))
        self.assertEqual(post.state()[:2], ("over", 7))

    def test_no_houses(self):
        for house in (3, -1, 10 ** 20 - 1, *no_integers()):
            self.assertIs(raised(Post, example(), house).__class__, NoHouse)
            self.assertIs(raised(post_of, example(), house, None).__class__, NoHouse)
            self.assertIs(raised(Post(example(), 1).letter, house).__class__, NoHouse)
        for house, to in ((0, 2), (0, 0), (1, 1), (2, 0), (0, True), (1, False)):
            self.assertIs(raised(Post(example(), house).letter, to).__class__, NoHouse)


class Deeds(unittest.TestCase):
    def started(self, house=1):
        post = Post(example(), house)
        post.deed(("start",))
        return post

    def check_none(self, thing, post=None):
        """A sealed thing that is no letter for the post."""
        post = self.started() if post is None else post
        ahead = seen(post)
        self.assertEqual(post.deed(("hear", sealed(thing))), "none")
        self.assertEqual(seen(post), ahead)

    def test_no_deeds(self):
        letter = sealed(("letter", 0, 1, 0, ()))
        things = [*no_integers(), *no_tuples(), ("start", 1), ("start", ()), ("hear",), ("hear", letter, 1), ("hear", list(letter)),
                  ["start"], ["hear", letter], ("heard", letter), ("", letter), (b"hear", letter), (None, letter),
                  ("keep",), ("", 1), (b"start",), ("Start",), (("start",),), ("hear", (256,)),
                  ("hear", (-1,)), ("hear", (True,)), ("hear", (*letter[:-1], None)), ("hear", (letter,)), "start", ("start",) * 2]
        things.extend([("hear", thing) for thing in [*no_integers(), *no_tuples()] if not lasting.is_row(thing)])
        for post in (Post(example(), 1), self.started()):
            ahead = seen(post)
            for thing in things:
                self.assertIs(raised(post.deed, thing).__class__, NoDeed)
            self.assertEqual(seen(post), ahead)

    def test_flags_in_the_place_of_bytes(self):
        letter = sealed(("letter", 0, 1, 0, ((0, ("said", 0, 0)),)))
        post = self.started()
        ahead = seen(post)
        for at in range(len(letter)):
            if letter[at] in (0, 1):
                other = (*letter[:at], bool(letter[at]), *letter[at + 1:])
                self.assertIs(raised(post.deed, ("hear", other)).__class__, NoDeed)
        self.assertEqual(seen(post), ahead)
        self.assertEqual(post.deed(("hear", letter)), "new")

    def test_a_second_start(self):
        post = self.started()
        ahead = seen(post)
        self.assertIs(raised(post.deed, ("start",)).__class__, NoDeed)
        self.assertEqual(seen(post), ahead)

    def test_rows_that_are_sealed_of_no_letter(self):
        post = self.started()
        ahead = seen(post)
        letter = sealed(("letter", 0, 1, 0, ((0, ("said", 0, 0)),)))
        for other in ((), (0,), letter[:-1], (*letter, 0), letter[1:], letter[:-4], (*letter[:-1], letter[-1] ^ 128)):
            self.assertEqual(post.deed(("hear", other)), "none")
        self.assertEqual(seen(post), ahead)

    def test_no_letters(self):
        item = (0, ("said", 0, 0))
        for thing in (None, 5, "letter", (), ("letter",), ("letter", 0, 1, 0), ("letter", 0, 1, 0, (), ()), ("Letter", 0, 1, 0, ()),
                      (None, 0, 1, 0, ()), (("letter",), 0, 1, 0, ()), ("letters", 0, 1, 0, (item,)),
                      # From whom.
                      ("letter", 1, 1, 0, (item,)), ("letter", 3, 1, 0, (item,)), ("letter", -1, 1, 0, (item,)),
                      ("letter", None, 1, 0, (item,)), ("letter", False, 1, 0, (item,)), ("letter", (0,), 1, 0, (item,)),
                      ("letter", "a", 1, 0, (item,)),
                      # To whom.
                      ("letter", 0, 0, 0, (item,)), ("letter", 0, 2, 0, (item,)), ("letter", 0, True, 0, (item,)),
                      ("letter", 0, None, 0, (item,)), ("letter", 0, (1,), 0, (item,)), ("letter", 0, "a", 0, (item,)),
                      # How many are taken.
                      ("letter", 0, 1, 2, (item,)), ("letter", 0, 1, -1, (item,)), ("letter", 0, 1, None, (item,)),
                      ("letter", 0, 1, False, (item,)), ("letter", 0, 1, True, (item,)), ("letter", 0, 1, (0,), (item,)),
                      ("letter", 0, 1, 2 ** 32, (item,)),
                      # The items.
                      ("letter", 0, 1, 0, None), ("letter", 0, 1, 0, 0), ("letter", 0, 1, 0, "a"), ("letter", 0, 1, 0, item),
                      ("letter", 0, 1, 0, (item,) * 21), ("letter", 0, 1, 0, (item, None)), ("letter", 0, 1, 0, (item[:1],)),
                      ("letter", 0, 1, 0, ((0, ("said", 0, 0), 0),)), ("letter", 0, 1, 0, (item, ("said", 0, 0)))):
            self.check_none(thing)

    def test_no_items(self):
        for number in (2 ** 32, -1, None, True, False, "a", (0,), 10 ** 20):
            self.check_none(("letter", 0, 1, 0, ((number, ("said", 0, 0)),)))
            self.check_none(("letter", 0, 1, 1, ((0, ("said", 0, 0)), (number, ("got", 0)))))
        for word in (None, 0, "got", (), ("got",), ("got", -1), ("got", 1000), ("got", True), ("said", 0), ("said", 0, 2 ** 31),
                     ("said", 0, False), ("said", False, 0), ("gone", 0), ("got", 0, 0), (("got",), 0)):
            self.check_none(("letter", 0, 1, 0, ((0, word),)))
            # Also where it would not be taken.
            self.check_none(("letter", 0, 1, 1, ((5, word),)))
            self.check_none(("letter", 0, 1, 1, ((2 ** 32 - 1, word),)))

    def test_words_that_are_none_then(self):
        said = ("said", 0, 0)
        for words in ([("got", 1)], [("up", 0)], [("go", 1)], [("go", 0)], [("next", 0)], [("down", 0)], [("done", 0)],
                      [("said", 2, 0)], [said, said], [said, ("got", 0), ("got", 0), ("got", 0)], [("got", 0)] * 3):
            self.check_none(("letter", 0, 1, 1, tuple(enumerate(words))))
        # It is none only when it would be taken.
        post = self.started()
        self.assertEqual(post.deed(("hear", sealed(("letter", 0, 1, 1, ((1, ("go", 0)),))))), "new")
        self.assertEqual(post.past()[1][0], (1, ()))
        self.check_none(("letter", 0, 1, 1, ((0, said),)), post)
        self.assertEqual(post.past()[2][0], (0, ((1, ("go", 0)),)))

    def test_old_and_new(self):
        post = self.started()
        letter = sealed(("letter", 0, 1, 1, ((0, ("said", 0, 0)),)))
        self.assertEqual(post.deed(("hear", letter)), "new")
        self.assertEqual(post.deed(("hear", letter)), "old")
        # Held ahead of a gap, and held already.
        letter = sealed(("letter", 0, 1, 0, ((2, ("got", 5)),)))
        self.assertEqual(post.deed(("hear", letter)), "new")
        self.assertEqual(post.deed(("hear", letter)), "old")
        self.assertEqual(post.deed(("hear", sealed(("letter", 0, 1, 0, ((2, ("got", 6)),))))), "old")
        self.assertEqual(post.past()[2][0], (1, ((2, ("got", 5)),)))
        # Too far ahead.
        self.assertEqual(post.deed(("hear", sealed(("letter", 0, 1, 0, ((1001, ("got", 6)),))))), "old")
        self.assertEqual(post.deed(("hear", sealed(("letter", 0, 1, 0, ((1000, ("got", 6)),))))), "new")
        # Nothing but what is known.
        self.assertEqual(post.deed(("hear", sealed(("letter", 2, 1, 0, ())))), "old")
        self.assertEqual(post.deed(("hear", sealed(("letter", 2, 1, 1, ())))), "new")
        self.assertEqual(post.deed(("hear", sealed(("letter", 2, 1, 1, ())))), "old")
        self.assertEqual(post.past()[1], ((1, (("got", 0),)), (1, ())))

    def test_a_house_asleep_hears(self):
        post = Post(example(), 2)
        letter = sealed(("letter", 1, 2, 0, ((0, ("said", 0, 1)),)))
        self.assertEqual(post.deed(("hear", letter)), "new")
        self.assertEqual(post.past(), (("asleep", 0, (2,), 0, ((0, 1, 1),), (), (), ()), ((0, (("got", 0),)),), ((1, ()),)))


class Copies(unittest.TestCase):
    def test_a_copy_goes_on_apart(self):
        course = Course(quiet_program(), gamma(ring(5), 2), 3)
        town = Town(self, course, random.Random(3))
        for _ in range(60):
            town.step()
        for house in town.houses:
            post = town.posts[house]
            other = post.copy()
            self.assertIs(other.__class__, Post)
            self.assertFalse(other == post)
            ahead = seen(post)
            self.assertEqual(seen(other), ahead)
            for to in neighbours(course.keeper.web, house):
                self.assertEqual(other.letter(to), post.letter(to))
                other.deed(("hear", town.posts[to].letter(house)))
            if other.state()[0] == "asleep":
                other.deed(("start",))
            self.assertEqual(seen(post), ahead)
            town.compare(house)
            held = seen(other)
            town.hear(house, town.letter((house + 1) % 5, house))
            self.assertEqual(seen(other), held)


class Pasts(unittest.TestCase):
    good = (("says", 1, (5,), 2, ((1, 0, 7),), (0, 2), ((1, 1),), (1,)),
            ((3, (("said", 1, 5), ("got", 0))), (0, ())), ((2, ((4, ("up", 0)),)), (9, ())))

    def check(self, *things):
        for thing in things:
            self.assertIs(raised(post_of, example(), 1, thing).__class__, NoPast)

    def test_there_and_back(self):
        self.assertEqual(seen(post_of(example(), 1, self.good)), lasting.strict(self.good))
        self.assertIs(post_of(example(), 1, self.good).__class__, Post)
        for seed, course in enumerate(courses()):
            town = Town(self, course, random.Random(seed))
            for at in range(80):
                town.step()
                if at % 10 == 0:
                    for house in town.houses:
                        town.posts[house] = post_of(course, house, town.posts[house].past())
                        town.compare(house)
            town.finish()

    def test_it_goes_on_apart(self):
        post = post_of(example(), 1, self.good)
        post.deed(("hear", sealed(("letter", 0, 1, 5, ((2, ("got", 1)),)))))
        self.assertNotEqual(seen(post), lasting.strict(self.good))
        self.assertEqual(seen(post_of(example(), 1, self.good)), lasting.strict(self.good))

    def test_great_numbers(self):
        past = (self.good[0], ((2 ** 32 - 1, (("got", 0),)), (0, ())), ((2 ** 32 - 1, ((2 ** 32 + 5, ("got", 0)),)), (0, ())))
        post = post_of(example(), 1, past)
        self.assertEqual(seen(post), lasting.strict(past))
        self.assertEqual(unsealed(post.letter(0)), (("letter", 1, 0, 2 ** 32 - 1, ((2 ** 32 - 1, ("got", 0)),)),))
        self.assertEqual(post.deed(("hear", sealed(("letter", 0, 1, 2 ** 32, ())))), "new")
        self.assertEqual(post.deed(("hear", sealed(("letter", 0, 1, 2 ** 32 + 1, ())))), "none")

    def test_no_pasts(self):
        state, outs, ins = self.good
        self.check(*no_integers(), *no_tuples(), list(self.good), (state, outs), (state, outs, ins, ()), (outs, state, ins),
                   (state, list(outs), ins), (state, outs, list(ins)), (state, outs[:1], ins), (state, outs, ins[:1]),
                   (state, (*outs, (0, ())), ins), (state, outs, (*ins, (0, ()))), (state, (), ()), ((), outs, ins))
        for thing in [*no_integers(), *no_tuples()]:
            self.check((thing, outs, ins), (state, thing, ins), (state, outs, thing), (state, (thing, outs[1]), ins),
                       (state, (outs[0], thing), ins), (state, outs, (thing, ins[1])), (state, outs, (ins[0], thing)))
            if thing != ():
                self.check((state, ((0, thing), outs[1]), ins), (state, outs, (ins[0], (0, thing))))
            self.check((state, (outs[0], (0, (thing,))), ins), (state, outs, ((2, ((3, thing),)), ins[1])),
                       (state, (outs[0], (0, (("got", 0), thing))), ins), (state, outs, ((2, (thing,)), ins[1])))
        for thing in (-1, 2 ** 32, *no_integers()):
            self.check((state, ((thing, ()), outs[1]), ins), (state, outs, ((thing, ()), ins[1])),
                       (state, outs, ((2, ((thing, ("got", 0)),)), ins[1])))

    def test_states_and_words(self):
        _, outs, ins = self.good
        for part, thing in ((0, "awake"), (1, 3), (1, True), (2, (5, 5)), (2, (True,)), (3, -1), (3, False), (4, ((3, 0, 7),)),
                            (4, ((1, True, 7),)), (4, ((1, 0, 7), (0, 0, 7))), (5, (3,)), (5, (2, 0)), (6, ((1, False),)),
                            (6, ((1, 1), (1, 1))), (7, (False,)), (7, [1])):
            state = list(self.good[0])
            state[part] = thing
            self.check((tuple(state), outs, ins))
        self.check((self.good[0][:7], outs, ins), ((*self.good[0], ()), outs, ins))
        for word in (("got", 1000), ("got", True), ("said", 0), ("said", 0, 2 ** 31), ("gone", 0), (), ("got",), (1,), ("said", 0, True)):
            self.check((self.good[0], ((3, (("got", 0), word)), outs[1]), ins),
                       (self.good[0], outs, ((2, ((4, word),)), ins[1])))
        for held in (((2, ("got", 0)),), ((1, ("got", 0)),), ((1002, ("got", 0)),), ((4, ("got", 0)), (4, ("got", 0))),
                     ((5, ("got", 0)), (4, ("got", 0))), ((4,),), ((4, ("got", 0), 0),)):
            self.check((self.good[0], outs, ((2, held), ins[1])))

    def test_what_comes_first(self):
        self.assertIs(raised(post_of, example(), 3, self.good).__class__, NoHouse)
        self.assertIs(raised(post_of, example(), True, self.good).__class__, NoHouse)
        self.assertIs(raised(post_of, example(), 0, self.good).__class__, NoPast)

    def test_odd_states_are_pasts(self):
        for stage in ("asleep", "says", "up", "down", "done", "over"):
            past = ((stage, 2, (5,), 9, (), (), (), ()), ((0, ()), (0, ())), ((0, ()), (0, ())))
            self.assertEqual(post_of(example(), 1, past).past(), past)


class Equality(unittest.TestCase):
    def test_equal_to_nothing_else(self):
        post = Post(example(), 0)
        for thing in [*no_integers(), *no_tuples(), post.past(), post.state()]:
            self.assertFalse(post == thing)


if __name__ == "__main__":
    unittest.main()
