"""Houses that last [9.2]."""

import random
import unittest

from sameround.disks import Disk
from sameround.errors import NoDeed, NoDisk, NoHouse, OtherHouse
from sameround.glass import all_words
from sameround.keepers import Course, alpha, beta, gamma
from sameround.lockstep import lockstep
from sameround.posts import Post, post_of
from sameround.rows import sealed, unsealed
from sameround.savings import SavedHouse
from sameround.texts import course_text
from sameround.webs import neighbours

from tests import lasting
from tests.helpers import full, no_integers, no_tuples, quiet_program, raised, ring, row, small_program
from tests.test_disks import made
from tests.test_disks import seen as seen_disk
from tests.test_posts import courses, example, seen

START = sealed(("deed", ("start",)))


def letter(sender, to, taken, *items):
    return sealed(("letter", sender, to, taken, items))


def hear(sender, to, taken, *items):
    return ("hear", letter(sender, to, taken, *items))


def first(house, course=None):
    return lasting.first_block(example() if course is None else course, house)


class Begins(unittest.TestCase):
    def test_on_an_empty_disk(self):
        for course in courses():
            for house in range(course.keeper.web.many):
                disk = Disk()
                saved = SavedHouse(course, house, disk)
                self.assertIsInstance(saved, Post)
                self.assertEqual((disk.blocks(), disk.synced()), ([lasting.first_block(course, house)], 1))
                self.assertEqual(seen(saved), seen(Post(course, house)))
                self.assertEqual(saved.state(), Post(course, house).state())

    def test_the_first_block(self):
        course = example()
        mark = lasting.mark([ord(sign) for sign in course_text(course)])
        disk = Disk()
        SavedHouse(course, 2, disk)
        self.assertEqual(unsealed(disk.blocks()[0]), (("house", mark, 2),))

    def test_equal_courses(self):
        disk = Disk()
        SavedHouse(example(), 1, disk).deed(("start",))
        saved = SavedHouse(Course(small_program(), beta(row(3)), 2), 1, disk)
        self.assertEqual(saved.state()[0], "says")

    def test_no_houses_no_disks(self):
        for house in (3, -1, 10 ** 20 - 1, *no_integers()):
            for disk in (Disk(), None, made([first(0)], [])):
                self.assertIs(raised(SavedHouse, example(), house, disk).__class__, NoHouse)
        for disk in [*no_integers(), *no_tuples(), [], [first(0)], (first(0),), Disk]:
            self.assertIs(raised(SavedHouse, example(), 0, disk).__class__, NoDisk)
        self.assertIs(raised(SavedHouse, example(), 0, SavedHouse(example(), 0, Disk())).__class__, NoDisk)

    def test_other_houses(self):
        other_course = Course(small_program(), beta(row(3)), 3)
        for block in (first(0), first(2), first(1, other_course), first(1, Course(small_program(), alpha(row(3)), 2)),
                      first(1, Course(quiet_program(), beta(row(3)), 2)), sealed(("house", 5, 1)), sealed(("house", None, ())),
                      sealed(("house", unsealed(first(1))[0][1], True)), sealed(("house", 0, 0)), sealed(("house", "house", "house"))):
            for more in ([], [START], [START, (7,)]):
                disk = made([block], more)
                ahead = seen_disk(disk)
                self.assertIs(raised(SavedHouse, example(), 1, disk).__class__, OtherHouse)
                self.assertEqual(seen_disk(disk), ahead)

    def test_first_blocks_that_are_none(self):
        mark = unsealed(first(1))[0][1]
        for block in ((), (0,), first(1)[:-1], (*first(1), 0), (*first(1)[:-1], first(1)[-1] ^ 1), START, sealed(5), sealed("house"),
                      sealed(None), sealed(()), sealed(("house",)), sealed(("house", mark)), sealed(("house", mark, 1, 1)),
                      sealed(("House", mark, 1)), sealed((("house",), mark, 1)), sealed((None, mark, 1)), sealed(("past", 1, 2))):
            for more in ([], [START], [first(1), START]):
                disk = made([block], more)
                saved = SavedHouse(example(), 1, disk)
                self.assertEqual((disk.blocks(), disk.synced()), ([first(1)], 1))
                self.assertEqual(seen(saved), seen(Post(example(), 1)))


class Notes(unittest.TestCase):
    def test_deeds_that_change_the_past_are_noted(self):
        disk = Disk()
        saved = SavedHouse(example(), 1, disk)
        blocks = [first(1)]
        for thing, told in ((hear(0, 1, 1), "none"), (hear(0, 1, 0), "old"), (hear(0, 1, 0, (0, ("said", 0, 0))), "new"),
                            (hear(0, 1, 0, (0, ("said", 0, 0))), "old"), (("start",), None), (("hear", (1, 2)), "none"),
                            (hear(0, 1, 0, (3, ("got", 0))), "new"), (hear(2, 1, 1), "new"), (hear(2, 1, 1), "old")):
            self.assertEqual(saved.deed(thing), told)
            if told in (None, "new"):
                blocks.append(sealed(("deed", thing)))
            self.assertEqual((disk.blocks(), disk.synced()), (blocks, 1))
        ahead = seen(saved)
        for thing in [("start",), *no_integers(), *no_tuples(), ("hear", [1]), ("hear", (True,)), ("keep",), ("post", 0)]:
            self.assertIs(raised(saved.deed, thing).__class__, NoDeed)
        self.assertEqual((disk.blocks(), disk.synced(), seen(saved)), (blocks, 1, ahead))
        self.assertEqual(seen(SavedHouse(example(), 1, disk)), ahead)
        self.assertEqual((disk.blocks(), disk.synced()), (blocks, 5))

    def test_letters_sync(self):
        disk = Disk()
        saved = SavedHouse(example(), 1, disk)
        saved.deed(("start",))
        for to in (1, 3, -1, True, None, *no_integers()):
            self.assertIs(raised(saved.letter, to).__class__, NoHouse)
        self.assertEqual((len(disk.blocks()), disk.synced()), (2, 1))
        self.assertEqual(saved.letter(2), letter(1, 2, 0, (0, ("said", 0, 1))))
        self.assertEqual((len(disk.blocks()), disk.synced()), (2, 2))
        saved.state()
        saved.past()
        saved.deed(hear(0, 1, 1))
        self.assertEqual((len(disk.blocks()), disk.synced()), (3, 2))

    def test_keep(self):
        disk = Disk()
        saved = SavedHouse(example(), 1, disk)
        saved.deed(("start",))
        self.assertEqual(saved.keep(), 3)
        self.assertEqual(disk.blocks(), [first(1), START, sealed(("past", saved.past()))])
        self.assertEqual(disk.synced(), 3)
        saved.deed(hear(0, 1, 1, (0, ("said", 0, 0))))
        self.assertEqual((saved.keep(), saved.keep()), (5, 6))
        self.assertEqual(disk.blocks()[4], disk.blocks()[5])
        other = SavedHouse(example(), 1, disk)
        self.assertEqual(seen(other), seen(saved))
        self.assertEqual(len(disk.blocks()), 6)

    def test_moved(self):
        disk = Disk()
        saved = SavedHouse(example(), 1, disk)
        for thing in (None, ("start",), hear(0, 1, 1, (0, ("said", 0, 0)), (2, ("got", 0)))):
            if thing is not None:
                saved.deed(thing)
            ahead, past = seen_disk(disk), seen(saved)
            new_disk = Disk()
            other = saved.moved(new_disk)
            self.assertIs(other.__class__, SavedHouse)
            self.assertEqual(new_disk.blocks(), [first(1), sealed(("past", saved.past()))])
            self.assertEqual(new_disk.synced(), 2)
            self.assertEqual((seen(other), seen(saved), seen_disk(disk)), (past, past, ahead))
            self.assertEqual(seen(SavedHouse(example(), 1, new_disk)), past)
        self.assertEqual(other.deed(hear(2, 1, 1)), "new")
        self.assertEqual((seen_disk(disk), seen(saved), len(new_disk.blocks())), (ahead, past, 3))
        other.letter(0)
        self.assertEqual(new_disk.synced(), 3)
        saved.deed(hear(2, 1, 1, (0, ("said", 0, 2))))
        self.assertEqual(len(new_disk.blocks()), 3)

    def test_moved_to_no_disk(self):
        disk = Disk()
        saved = SavedHouse(example(), 1, disk)
        saved.deed(("start",))
        ahead = seen_disk(disk)
        for thing in [*no_integers(), *no_tuples(), Disk, disk, disk.copy(), made([()], []), made([], [()]), made([first(1)], []),
                      made([], [first(0)])]:
            self.assertIs(raised(saved.moved, thing).__class__, NoDisk)
        self.assertEqual(seen_disk(disk), ahead)
        full_disk = made([first(1)], [START])
        held = seen_disk(full_disk)
        self.assertIs(raised(saved.moved, full_disk).__class__, NoDisk)
        self.assertEqual(seen_disk(full_disk), held)

    def test_moved_onto_a_disk_that_was_emptied(self):
        disk = made([(1,)], [(2,)])
        disk.drop(0)
        saved = SavedHouse(example(), 1, Disk())
        self.assertEqual(seen(saved.moved(disk)), seen(saved))
        self.assertEqual((len(disk.blocks()), disk.synced()), (2, 2))

    def test_copies(self):
        disk = Disk()
        saved = SavedHouse(example(), 1, disk)
        saved.deed(("start",))
        ahead, past = seen_disk(disk), seen(saved)
        other = saved.copy()
        self.assertIsInstance(other, Post)
        self.assertEqual((seen(other), seen_disk(disk)), (past, ahead))
        self.assertEqual(other.deed(hear(0, 1, 1)), "new")
        other.letter(2)
        self.assertEqual((seen(saved), seen_disk(disk)), (past, ahead))
        held = seen(other)
        saved.deed(hear(2, 1, 1))
        saved.letter(0)
        self.assertEqual(seen(other), held)
        self.assertFalse(other == saved)
        self.assertIs(raised(other.deed, ("start",)).__class__, NoDeed)


class Blocks(unittest.TestCase):
    """Disks with blocks that were put there by hand."""

    good = [START, sealed(("deed", hear(0, 1, 1, (0, ("said", 0, 0))))), sealed(("deed", hear(2, 1, 1)))]

    def check(self, blocks, many):
        """Of the blocks behind the first one so many are right."""
        for synced in (1, len(blocks) + 1):
            disk = made([first(1), *blocks][:synced], [first(1), *blocks][synced:])
            saved = SavedHouse(example(), 1, disk)
            self.assertEqual((disk.blocks(), disk.synced()), ([first(1), *blocks[:many]], many + 1))
            post, right = lasting.behind_blocks(example(), 1, [first(1), *blocks[:many]])
            self.assertEqual(right, many + 1)
            self.assertEqual(seen(saved), lasting.strict(post.past()))

    def test_right_ones(self):
        for many in range(4):
            self.check(self.good[:many], many)

    def test_the_first_bad_one(self):
        past = post_of(example(), 1, Post(example(), 1).past()).past()
        row_of_flags = tuple(bool(n) if n in (0, 1) else n for n in letter(0, 1, 0))
        for bad in ((), (0,), START[:-1], (*START, 0), sealed(None), sealed(5), sealed("deed"), sealed(()), sealed(("deed",)),
                    sealed(("deed", ("start",), 0)), sealed(("Deed", ("start",))), sealed((("deed",), ("start",))), first(1), first(0),
                    sealed(("deed", None)), sealed(("deed", ("hear",))), sealed(("deed", ("keep",))), sealed(("deed", ())),
                    sealed(("deed", ("start", 1))), sealed(("deed", "start")), sealed(("deed", ("hear", (256,)))),
                    sealed(("deed", ("hear", (True,)))), sealed(("deed", ("hear", row_of_flags))), sealed((None, None)),
                    sealed(("deed", ("hear", ()))), sealed(("deed", hear(0, 1, 5))), sealed(("deed", hear(0, 1, 0))),
                    sealed(("deed", hear(0, 1, 0, (0, ("go", 0))))), sealed(("past", None)), sealed(("past", ())),
                    sealed(("past",)), sealed(("past", past, 0)), sealed(("past", past[:2])), sealed(("past", (*past, ()))),
                    sealed(("past", (past[0][:7], *past[1:]))), sealed(("past", Post(example(), 0).past())),
                    sealed(("past", (past[0], past[1], ((0, ()), (True, ()))))), sealed(("Past", past)), sealed((past, "past"))):
            for at in range(4):
                self.check([*self.good[:at], bad, *self.good[at:]], at)

    def test_deeds_that_cant_be_done_then(self):
        self.check([START, START, self.good[1]], 1)
        self.check([self.good[1], START], 0)
        # By the second one, heard already, the past stays.
        self.check([START, self.good[1], self.good[1], self.good[2]], 2)

    def test_pasts(self):
        later = Post(example(), 1)
        later.deed(("start",))
        later.deed(hear(0, 1, 1, (0, ("said", 0, 0))))
        past = sealed(("past", later.past()))
        asleep = sealed(("past", Post(example(), 1).past()))
        self.check([past], 1)
        self.check([past, self.good[2]], 2)
        self.check([past, START], 1)
        self.check([START, past, asleep, START, self.good[1], self.good[2]], 6)
        self.check([asleep, asleep, START, START], 3)
        self.check([START, (), past], 1)


class Cuts(unittest.TestCase):
    def kept(self, chance, disk):
        """What is left of each block that waits: nothing, a part, all of it."""
        waiting = disk.blocks()[disk.synced():]
        left = [chance.choice([0, len(block), chance.randint(0, len(block))]) for block in waiting]
        if chance.random() < 0.3:
            left = [len(block) for block in waiting]
        return tuple(left)

    def test_cut_again_and_again(self):
        lost = 0
        for seed, course in enumerate(courses() * 2):
            chance = random.Random(seed)
            houses = range(course.keeper.web.many)
            disks = [Disk() for _ in houses]
            saved = [SavedHouse(course, house, disk) for house, disk in zip(houses, disks)]
            # By house the pasts behind its deeds that changed it, and how many there were ahead of its last letter.
            pasts = [[seen(house)] for house in saved]
            told, bag = [0] * len(houses), []
            for _ in range(250):
                house = chance.choice(houses)
                beside = neighbours(course.keeper.web, house)
                word = chance.choice(["start", "post", "bring", "bring", "bring", "cut", "keep", "move"])
                if word == "start" and saved[house].state()[0] == "asleep":
                    saved[house].deed(("start",))
                elif word == "post" and beside:
                    to = chance.choice(beside)
                    bag.append((to, saved[house].letter(to)))
                    told[house] = len(pasts[house]) - 1
                elif word == "bring" and bag:
                    house, sent = bag[chance.randrange(len(bag))]
                    if saved[house].deed(("hear", sent)) != "new":
                        self.assertEqual(seen(saved[house]), pasts[house][-1])
                elif word == "cut":
                    disk = disks[house]
                    disk.cut(self.kept(chance, disk))
                    blocks = disk.blocks()
                    saved[house] = SavedHouse(course, house, disk)
                    post, right = lasting.behind_blocks(course, house, blocks)
                    self.assertEqual(seen(saved[house]), lasting.strict(post.past()))
                    self.assertEqual((disk.blocks(), disk.synced()), (blocks[:right], right))
                    at = pasts[house].index(seen(saved[house]))
                    self.assertGreaterEqual(at, told[house])
                    lost += len(pasts[house]) - 1 - at
                    del pasts[house][at + 1:]
                elif word == "keep" and chance.random() < 0.3:
                    self.assertEqual(saved[house].keep(), len(disks[house].blocks()))
                    told[house] = len(pasts[house]) - 1
                elif word == "move" and chance.random() < 0.3:
                    disks[house] = Disk()
                    saved[house] = saved[house].moved(disks[house])
                    told[house] = len(pasts[house]) - 1
                if seen(saved[house]) != pasts[house][-1]:
                    pasts[house].append(seen(saved[house]))
            self.finish(course, saved)
        self.assertGreater(lost, 100)

    def finish(self, course, saved):
        """Letters, until all are over: the main fact."""
        for house in saved:
            if house.state()[0] == "asleep":
                house.deed(("start",))
        for _ in range(2000):
            news = 0
            for house, post in enumerate(saved):
                for to in neighbours(course.keeper.web, house):
                    news += saved[to].deed(("hear", post.letter(to))) == "new"
            if not news:
                break
        rows = lockstep(course.keeper.web, course.program, course.goal)
        self.assertEqual(tuple(post.state()[2] for post in saved), rows[-1])
        self.assertEqual({post.state()[:2] for post in saved}, {("over", course.goal)})
        outs = [out for post in saved for out in post.past()[1]]
        self.assertEqual(sum(known + len(words) for known, words in outs), all_words(course))

    def test_every_cut(self):
        """One journal, cut at each place: the deeds whose blocks are whole, and nothing else."""
        course = Course(quiet_program(), gamma(full(3), 2), 2)
        deeds, post = [("start",)], Post(course, 0)
        other = Post(course, 1)
        other.deed(("start",))
        post.deed(("start",))
        for _ in range(3):
            deeds.append(("hear", other.letter(0)))
            post.deed(deeds[-1])
            other.deed(("hear", post.letter(1)))
        whole = Disk()
        saved = SavedHouse(course, 0, whole)
        pasts = [seen(saved)]
        for thing in deeds:
            if saved.deed(thing) in (None, "new"):
                pasts.append(seen(saved))
        self.assertEqual((whole.synced(), len(whole.blocks())), (1, len(pasts)))
        lengths = [len(block) for block in whole.blocks()[1:]]
        for left in range(0, sum(lengths) + 1, 3):
            kept, rest = [], left
            for length in lengths:
                kept.append(min(rest, length))
                rest -= kept[-1]
            disk = whole.copy()
            disk.cut(tuple(kept))
            whole_ones = len([1 for many, length in zip(kept, lengths) if many == length])
            self.assertEqual(seen(SavedHouse(course, 0, disk)), pasts[whole_ones])
            self.assertEqual(len(disk.blocks()), whole_ones + 1)


class Equality(unittest.TestCase):
    def test_equal_to_nothing_else(self):
        saved = SavedHouse(example(), 0, Disk())
        for thing in [*no_integers(), *no_tuples(), Post(example(), 0)]:
            self.assertFalse(saved == thing)


if __name__ == "__main__":
    unittest.main()
