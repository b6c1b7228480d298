"""The net [10.1], [10.2]."""

import random
import unittest

from sameround.disks import Disk
from sameround.errors import BadDeeds, NoDeed, NoHouse, NoNumber
from sameround.glass import all_words, beats, broken, first_glass, is_glass
from sameround.keepers import Course, alpha, beta, gamma
from sameround.lockstep import lockstep
from sameround.nets import Net, led_by, round_trip, settle
from sameround.rows import sealed, unsealed
from sameround.savings import SavedHouse
from sameround.webs import Web, neighbours

from tests import lasting
from tests.helpers import full, no_integers, no_tuples, quiet_program, raised, ring, row, small_program
from tests.test_posts import courses, example
from tests.test_states import keepers


def seen(net):
    """All that can be seen of a net."""
    houses = range(len(net.glass()[0]))
    disks = [net.disk(house) for house in houses]
    return lasting.strict(([net.house(house).past() for house in houses], net.bag(),
                           [(disk.blocks(), disk.synced()) for disk in disks]))


def seen_double(double):
    return lasting.strict(([post.past() for post in double.posts], double.bag,
                           list(zip(double.blocks, double.synced))))


def drawn_deed(chance, net, good=False):
    """A deed of any word, about one in five of which can't be done, unless it is to be good."""
    many = len(net.glass()[0])
    bag = net.bag()
    house = chance.randrange(many) if good or chance.random() < 0.9 else chance.choice([many, -1, True, None])
    at = chance.randrange(len(bag) + (not good)) if bag or not good else 0
    word = chance.choice(["start", "keep", "post", "post", "post", "bring", "bring", "bring", "lose", "double", "spoil", "send", "cut", "cut"])
    if word in ("start", "keep"):
        return (word, house)
    if word == "post":
        return (word, house, chance.randrange(many))
    if word in ("bring", "lose", "double"):
        return (word, at)
    if word == "spoil":
        length = len(bag[at][1]) if at < len(bag) else 10
        return (word, at, chance.randrange(length + 1) if length else 0, chance.randrange(256 + (not good)))
    if word == "send":
        return (word, house, sealed(5) if chance.random() < 0.2 else tuple(chance.randrange(256) for _ in range(chance.randint(0, 9))))
    disk = net.disk(house if house.__class__ is int and 0 <= house < many else 0)
    kept = [chance.choice([0, len(block), chance.randint(0, len(block))]) for block in disk.blocks()[disk.synced():]]
    if not good and chance.random() < 0.2:
        kept.append(0)
    return (word, house, tuple(kept))


class Both:
    """A net, and its second account."""

    def __init__(self, test, course):
        self.test, self.course = test, course
        self.net, self.double = Net(course), lasting.Net(course)
        self.compare()

    def compare(self):
        self.test.assertEqual(seen(self.net), seen_double(self.double))
        self.test.assertEqual(self.net.glass(), self.double.glass())

    def deed(self, thing):
        """Whether a deed can be done; nothing changes if not."""
        try:
            due = self.double.deed(thing)
        except lasting.Refused:
            self.test.assertIs(raised(self.net.deed, thing).__class__, NoDeed, thing)
            self.compare()
            return False
        told = self.net.deed(thing)
        self.test.assertEqual(lasting.strict(told), lasting.strict(due), thing)
        self.compare()
        return True


class Begins(unittest.TestCase):
    def test_a_new_net(self):
        for course in courses():
            net = Net(course)
            many = course.keeper.web.many
            self.assertEqual((net.bag(), net.glass()), ([], first_glass(course)))
            for house in range(many):
                self.assertIs(net.house(house).__class__, SavedHouse)
                self.assertIs(net.disk(house).__class__, Disk)
                self.assertEqual(net.disk(house).blocks(), [lasting.first_block(course, house)])
                self.assertEqual(net.disk(house).synced(), 1)

    def test_no_houses(self):
        net = Net(example())
        for house in (3, -1, 10 ** 20 - 1, *no_integers()):
            self.assertIs(raised(net.house, house).__class__, NoHouse)
            self.assertIs(raised(net.disk, house).__class__, NoHouse)

    def test_what_is_told_is_new(self):
        net = Net(example())
        led_by(net, [("start", 0), ("post", 0, 1)])
        ahead = seen(net)
        net.bag().clear()
        net.disk(0).drop(0)
        net.disk(1).write((1,))
        net.disk(0).sync()
        self.assertEqual(seen(net), ahead)

    def test_equal_to_nothing_else(self):
        net = Net(example())
        for thing in [*no_integers(), *no_tuples(), Net(example()), net.glass()]:
            self.assertFalse(net == thing)


class Deeds(unittest.TestCase):
    def test_by_hand(self):
        net = Net(example())
        said = sealed(("letter", 0, 1, 0, ((0, ("said", 0, 0)),)))
        self.assertIsNone(net.deed(("start", 0)))
        self.assertEqual(net.disk(0).synced(), 1)
        self.assertIsNone(net.deed(("post", 0, 1)))
        self.assertEqual((net.bag(), net.disk(0).synced()), ([(1, said)], 2))
        self.assertIsNone(net.deed(("double", 0)))
        self.assertIsNone(net.deed(("double", 0)))
        self.assertEqual(net.bag(), [(1, said)] * 3)
        self.assertIsNone(net.deed(("spoil", 1, 0, 5)))
        spoilt = (5, *said[1:])
        self.assertEqual(net.bag(), [(1, said), (1, spoilt), (1, said)])
        self.assertEqual(net.deed(("bring", 1)), "none")
        self.assertEqual(net.deed(("bring", 1)), "new")
        self.assertEqual(net.glass()[1], ((1, 0, (("got", 0),)),))
        self.assertEqual(net.deed(("bring", 0)), "old")
        self.assertEqual(net.bag(), [])
        self.assertIsNone(net.deed(("send", 2, (1, 2, 3))))
        self.assertEqual(net.bag(), [(2, (1, 2, 3))])
        self.assertIsNone(net.deed(("post", 2, 1)))
        self.assertIsNone(net.deed(("lose", 0)))
        self.assertEqual(net.bag(), [(1, sealed(("letter", 2, 1, 0, ())))])
        self.assertEqual(net.deed(("keep", 0)), 3)
        length = len(net.disk(1).blocks()[1])
        self.assertIsNone(net.deed(("cut", 1, (length - 1,))))
        self.assertEqual(net.glass()[1], ((0, 1, (("said", 0, 0),)),))
        self.assertEqual(net.house(1).state()[4], ())
        self.assertEqual(len(net.disk(1).blocks()), 1)

    def test_what_is_no_deed(self):
        both = Both(self, example())
        for thing in (("start", 0), ("start", 1), ("post", 0, 1), ("post", 1, 2), ("bring", 0), ("double", 0)):
            self.assertIs(both.deed(thing), True)
        # Two letters are in the bag, and of house 1 two blocks wait behind two.
        length = len(both.net.bag()[0][1])
        waits = [len(block) for block in both.net.disk(1).blocks()[both.net.disk(1).synced():]]
        self.assertEqual(len(waits), 1)
        for thing in ((), ("start",), ("start", 3), ("start", -1), ("start", 0), ("start", True), ("start", 2, 0), ["start", 2], ("Start", 2),
                      ("keep",), ("keep", 3), ("keep", False), ("keep", 0, 0), ("post", 0), ("post", 0, 2), ("post", 0, 0), ("post", 3, 0),
                      ("post", 0, 3), ("post", 0, True), ("post", False, 1), ("post", 0, 1, 2), ("bring",), ("bring", 2), ("bring", -1),
                      ("bring", False), ("bring", 0, 0), ("lose", 2), ("lose", True), ("lose", -1), ("double", 2), ("double", False),
                      ("double", -1), ("spoil", 2, 0, 0), ("spoil", 0, length, 0), ("spoil", 0, -1, 0), ("spoil", 0, 0, 256),
                      ("spoil", 0, 0, -1), ("spoil", 0, 0, True), ("spoil", 0, False, 0), ("spoil", True, 0, 0), ("spoil", 0, 0),
                      ("send", 3, ()), ("send", -1, ()), ("send", True, ()), ("send", 0, sealed(5)), ("send", 0, [1]), ("send", 0, (256,)),
                      ("send", 0, (True,)), ("send", 0, None), ("send", 0), ("cut", 3, ()), ("cut", True, ()), ("cut", 0, (0,)),
                      ("cut", 1, ()), ("cut", 1, (waits[0] + 1,)), ("cut", 1, (0, 0)), ("cut", 1, (False,)), ("cut", 1, [0]), ("cut", 1, 0),
                      ("cut", 1), ("hear", 0, ()), ("twice", 0), ("fall", 0, 0), ("glass",), ("settle", 5), ("", 0), (0, "start")):
            self.assertIs(both.deed(thing), False, thing)
        for thing in [*no_integers(), *no_tuples()]:
            self.assertIs(both.deed(thing), False)
            for word in ("start", "keep", "bring", "lose", "double"):
                if not number(thing):
                    self.assertIs(both.deed((word, thing)), False)
            if not number(thing):
                for deed in (("post", thing, 0), ("post", 1, thing), ("spoil", thing, 0, 0), ("spoil", 0, thing, 0), ("spoil", 0, 0, thing),
                             ("send", thing, ())):
                    self.assertIs(both.deed(deed), False)
            if not lasting.is_row(thing):
                self.assertIs(both.deed(("send", 0, thing)), False)
                self.assertIs(both.deed(("cut", 1, thing)), False)
            self.assertIs(both.deed((thing, 0)), False)

    def test_spoils_that_leave_a_row_sealed(self):
        both = Both(self, example())
        both.deed(("post", 0, 1))
        letter = both.net.bag()[0][1]
        self.assertIs(both.deed(("spoil", 0, 2, letter[2])), True)
        self.assertEqual(both.net.bag(), [(1, letter)])
        self.assertIs(both.deed(("spoil", 0, 2, letter[2] ^ 1)), True)
        # It would be sealed again.
        self.assertIs(both.deed(("spoil", 0, 2, letter[2])), False)
        self.assertIs(both.deed(("spoil", 0, 3, letter[3] ^ 1)), True)
        self.assertIs(both.deed(("spoil", 0, 2, letter[2])), True)
        self.assertIs(both.deed(("spoil", 0, 3, letter[3])), False)
        self.assertIs(both.deed(("bring", 0)), True)
        self.assertIs(both.deed(("send", 1, letter)), False)
        self.assertIs(both.deed(("send", 1, letter[:-1])), True)
        self.assertEqual(both.net.deed(("bring", 0)), "none")

    def test_a_letter_that_is_heard_late(self):
        both = Both(self, Course(quiet_program(), gamma(ring(5), 2), 3))
        for thing in [("start", house) for house in range(5)] + [("post", 0, 1), ("post", 0, 1)]:
            both.deed(thing)
        self.assertLessEqual(settle(both.net, 1000), beats(both.course) + 1)
        ahead = [both.net.house(house).past() for house in range(5)]
        self.assertIn(both.net.deed(("bring", 0)), ("old", "none"))
        self.assertIn(both.net.deed(("bring", 0)), ("old", "none"))
        self.assertEqual([both.net.house(house).past() for house in range(5)], ahead)


def number(thing):
    return thing.__class__ is int


class LedBy(unittest.TestCase):
    def test_what_they_returned(self):
        for kind in (list, tuple):
            net = Net(example())
            told = led_by(net, kind([("start", 0), ("post", 0, 1), ("double", 0), ("bring", 0), ("bring", 0), ("keep", 2), ("send", 0, ()),
                                     ("bring", 0), ("cut", 0, ())]))
            self.assertEqual(told, [None, None, None, "new", "old", 2, None, "none", None])
            self.assertEqual(led_by(net, kind([])), [])

    def test_a_bad_deed_in_the_middle(self):
        good = [("start", 0), ("post", 0, 1), ("bring", 0), ("start", 1)]
        for at in range(5):
            for bad in (("start", 3), None, ("bring", 1), ("start", True), (), [], ("cut", 1, (0, 0, 0))):
                net, due = Net(example()), Net(example())
                led_by(due, good[:at])
                wrong = raised(led_by, net, [*good[:at], bad, *good[at:]])
                self.assertIs(wrong.__class__, BadDeeds)
                self.assertEqual(wrong.index, at)
                self.assertEqual(seen(net), seen(due))

    def test_no_deeds(self):
        net = Net(example())
        ahead = seen(net)
        for thing in [*no_integers(), *no_tuples()]:
            wrong = raised(led_by, net, thing)
            if not isinstance(thing, (list, tuple)):
                self.assertIs(wrong.__class__, BadDeeds)
                self.assertEqual(wrong.index, -1)
            elif thing:
                self.assertIs(wrong.__class__, BadDeeds)
                self.assertEqual(wrong.index, 0)
        self.assertEqual(raised(led_by, net, ("start", 0)).index, 0)
        self.assertEqual(seen(net), ahead)

    def test_deeds_are_not_changed(self):
        deeds = [("start", 0), ("post", 0, 1)]
        led_by(Net(example()), deeds).append("more")
        self.assertEqual(deeds, [("start", 0), ("post", 0, 1)])


class Faults(unittest.TestCase):
    def test_against_a_second_account(self):
        done = refused = 0
        for seed, course in enumerate(courses()):
            chance = random.Random(seed)
            both = Both(self, course)
            for _ in range(150):
                if both.deed(drawn_deed(chance, both.net)):
                    done += 1
                else:
                    refused += 1
            many = 0
            while not both.double.is_settled():
                both.double.round_trip()
                many += 1
                self.assertIsNone(round_trip(both.net))
                both.compare()
            self.assertEqual(settle(both.net, 1000), 0)
            self.assertLessEqual(many, beats(course) + 1)
        self.assertGreater(refused, 400)
        self.assertGreater(done, 1500)

    def check_the_end(self, net, course):
        rows = lockstep(course.keeper.web, course.program, course.goal)
        states, ways = net.glass()
        self.assertEqual(ways, ())
        self.assertEqual({state[:2] for state in states}, {("over", course.goal)})
        self.assertEqual(tuple(state[2] for state in states), rows[-1])
        outs = [out for house in range(len(states)) for out in net.house(house).past()[1]]
        self.assertEqual({words for _, words in outs}, {()} if outs else set())
        self.assertEqual(sum(known for known, _ in outs), all_words(course))

    def test_the_main_fact(self):
        for seed, course in enumerate(courses() + [Course(quiet_program(), keeper, 4) for keeper in keepers()]):
            chance = random.Random(seed)
            net = Net(course)
            rows = lockstep(course.keeper.web, course.program, course.goal)
            for at in range(200):
                thing = drawn_deed(chance, net, good=True)
                raised(net.deed, thing)
                if at % 40 == 0 and chance.random() < 0.5:
                    round_trip(net)
                glass = net.glass()
                self.assertIs(is_glass(course, glass), True)
                self.assertEqual(broken(course, glass), ())
                for house, state in enumerate(glass[0]):
                    self.assertEqual(state[2], rows[state[1]][house])
            bag = net.bag()
            self.assertLessEqual(settle(net, 1000), beats(course) + 1)
            self.assertEqual(net.bag(), bag)
            self.check_the_end(net, course)
            # What is still in the bag changes nothing any more.
            while net.bag():
                self.assertIn(net.deed(("bring", chance.randrange(len(net.bag())))), ("old", "none"))
            for house in range(course.keeper.web.many):
                disk = net.disk(house)
                net.deed(("cut", house, (0,) * (len(disk.blocks()) - disk.synced())))
            settle(net, 1000)
            self.check_the_end(net, course)

    def test_nothing_is_cut_but_what_waits(self):
        for seed, course in enumerate(courses()):
            chance = random.Random(seed)
            net = Net(course)
            for _ in range(60):
                raised(net.deed, drawn_deed(chance, net, good=True))
            for house in range(course.keeper.web.many):
                ahead = net.house(house).past()
                disk = net.disk(house)
                waiting = disk.blocks()[disk.synced():]
                net.deed(("cut", house, tuple(len(block) for block in waiting)))
                self.assertEqual(net.house(house).past(), ahead)
                net.deed(("keep", house))
                net.deed(("cut", house, ()))
                self.assertEqual(net.house(house).past(), ahead)


class Settles(unittest.TestCase):
    def test_settle(self):
        for course in courses() + [Course(small_program(), keeper, 7) for keeper in keepers()]:
            net, double = Net(course), lasting.Net(course)
            many = 0
            while not double.is_settled():
                double.round_trip()
                many += 1
            self.assertEqual(settle(net, 1000), many)
            self.assertLessEqual(many, beats(course) + 1)
            self.assertEqual(seen(net), seen_double(double))
            self.assertEqual((settle(net, 1000), settle(net, 0)), (0, 0))
            self.assertEqual(seen(net), seen_double(double))

    def test_at_most_so_many(self):
        course = Course(small_program(), beta(row(6)), 6)
        whole = settle(Net(course), 1000)
        self.assertGreater(whole, 3)
        for most in range(whole + 2):
            net, double = Net(course), lasting.Net(course)
            self.assertEqual(settle(net, most), min(most, whole))
            for _ in range(min(most, whole)):
                double.round_trip()
            self.assertEqual(seen(net), seen_double(double))
            self.assertEqual(settle(net, 1000), max(0, whole - most))

    def test_no_numbers(self):
        net = Net(example())
        ahead = seen(net)
        for most in (1001, -1, 10 ** 20 - 1, *no_integers()):
            self.assertIs(raised(settle, net, most).__class__, NoNumber)
        self.assertEqual(seen(net), ahead)
        self.assertGreater(settle(net, 1000), 0)
        for most in (1001, None, True):
            self.assertIs(raised(settle, net, most).__class__, NoNumber)

    def test_a_house_alone(self):
        net = Net(Course(small_program(), alpha(Web(1, ())), 5))
        self.assertEqual(settle(net, 0), 0)
        self.assertEqual(net.glass()[0][0][0], "asleep")
        self.assertEqual(settle(net, 5), 1)
        self.assertEqual(net.glass()[0][0][:2], ("over", 5))

    def test_goal_0(self):
        net = Net(Course(small_program(), beta(full(4)), 0))
        self.assertEqual(settle(net, 1000), 1)

    def test_the_bag_stays(self):
        net = Net(example())
        led_by(net, [("start", 1), ("post", 1, 0), ("post", 1, 2), ("send", 0, (5,))])
        bag = net.bag()
        round_trip(net)
        self.assertEqual(net.bag(), bag)
        settle(net, 1000)
        self.assertEqual(net.bag(), bag)
        self.assertEqual(led_by(net, [("bring", 0)] * 3)[2], "none")

    def test_the_house_is_the_one_of_the_net(self):
        net = Net(example())
        house = net.house(1)
        net.deed(("start", 1))
        self.assertEqual(house.state()[0], "says")
        self.assertEqual(neighbours(example().keeper.web, 1), (0, 2))
        self.assertEqual(unsealed(house.letter(2))[0][:3], ("letter", 1, 2))


if __name__ == "__main__":
    unittest.main()
