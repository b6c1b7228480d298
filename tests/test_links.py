"""Links [7.1]."""

import random
import unittest

from sameround.errors import NoNumber, NoState
from sameround.links import Incoming, Outgoing, incoming_of, outgoing_of

from tests.helpers import nested, no_integers, no_tuples, raised

TOP = 2 ** 32


def thing(k):
    """Things of different shapes."""
    return [(), (k,), ("put", k, None), (True, (False, (k, ()))), ((((),),), "", -k)][k % 5]


def outgoing(many, known=0):
    link = Outgoing()
    for k in range(many):
        link.put(thing(k))
    link.known(known)
    return link


def deep(many):
    made = ()
    for _ in range(many):
        made = (made,)
    return made


def same(one, other):
    """Whether both are equal, and flags stand where flags stand."""
    return repr(one) == repr(other)


# What is no thing, and no item of one that is no tuple.
NO_THINGS = [[], [1], {}, b"", b"a", bytearray(b"a"), memoryview(b"a"), range(2), slice(0, 1), Ellipsis,
             NotImplemented, object(), int, len, Outgoing(), Incoming(), NoNumber(), [0] * 5000, nested(40, list)]


class Out(unittest.TestCase):
    def test_put_and_waiting(self):
        link = Outgoing()
        self.assertEqual((link.many_put(), link.waiting(), link.state()), (0, [], (0, ())))
        for k in range(30):
            self.assertEqual(link.put(thing(k)), k)
            self.assertEqual(link.many_put(), k + 1)
        self.assertTrue(same(link.waiting(), [(k, thing(k)) for k in range(30)]))
        self.assertTrue(same(link.state(), (0, tuple(thing(k) for k in range(30)))))

    def test_known(self):
        link = outgoing(10)
        self.assertEqual(link.known(0), 0)
        self.assertEqual(link.known(4), 4)
        self.assertTrue(same(link.waiting(), [(k, thing(k)) for k in range(4, 10)]))
        for number in (0, 1, 3, 4):
            self.assertEqual(link.known(number), 0)
            self.assertTrue(same(link.state(), (4, tuple(thing(k) for k in range(4, 10)))))
        self.assertEqual(link.known(5), 1)
        self.assertEqual(link.known(10), 5)
        self.assertEqual((link.known(10), link.waiting(), link.state(), link.many_put()), (0, [], (10, ()), 10))
        self.assertEqual(link.put(("more",)), 10)
        self.assertEqual(link.waiting(), [(10, ("more",))])
        self.assertEqual(link.known(11), 1)

    def test_wrong_numbers(self):
        link = outgoing(10, 4)
        for number in (11, -1, 10 ** 20 - 1, *no_integers()):
            self.assertIs(raised(link.known, number).__class__, NoNumber)
        self.assertTrue(same(link.state(), outgoing(10, 4).state()))
        self.assertIs(raised(Outgoing().known, 1).__class__, NoNumber)
        self.assertIs(raised(Outgoing().known, False).__class__, NoNumber)
        self.assertIs(raised(link.known, True).__class__, NoNumber)

    def test_lists_are_new(self):
        link = outgoing(3)
        link.waiting().clear()
        link.waiting().append((3, ()))
        self.assertEqual(len(link.waiting()), 3)

    def test_copies(self):
        link = outgoing(6, 2)
        other = link.copy()
        self.assertIs(other.__class__, Outgoing)
        self.assertTrue(same(other.state(), link.state()))
        link.put((1,))
        self.assertEqual((link.many_put(), other.many_put()), (7, 6))
        other.known(5)
        self.assertEqual((len(link.waiting()), len(other.waiting())), (5, 1))
        self.assertEqual(other.put((2,)), 6)
        self.assertEqual(link.waiting()[-1], (6, (1,)))
        self.assertEqual(other.waiting()[-1], (6, (2,)))


class OutStates(unittest.TestCase):
    def test_there_and_back(self):
        for many, known in ((0, 0), (1, 0), (1, 1), (20, 0), (20, 7), (20, 20)):
            link = outgoing_of(outgoing(many, known).state())
            self.assertIs(link.__class__, Outgoing)
            self.assertTrue(same(link.state(), outgoing(many, known).state()))
            self.assertEqual(link.many_put(), many)
            self.assertEqual(link.put(()), many)
            self.assertEqual(link.known(many + 1), many + 1 - known)

    def test_great_numbers(self):
        link = outgoing_of((TOP - 1, ((1,), (2,))))
        self.assertEqual(link.waiting(), [(TOP - 1, (1,)), (TOP, (2,))])
        self.assertEqual(link.many_put(), TOP + 1)
        self.assertIs(raised(link.known, TOP + 2).__class__, NoNumber)
        self.assertEqual(link.known(TOP + 1), 2)
        self.assertEqual(link.state(), (TOP + 1, ()))
        self.assertIs(raised(outgoing_of, link.state()).__class__, NoState)

    def test_things(self):
        for item in ((), (0,), (-1, 10 ** 20 - 1), (True, False, None), ("", "a\n~ "), ((), ((),)), deep(37),
                     (0,) * 5000, ((), ) * 5000):
            self.assertTrue(same(outgoing_of((3, (item,))).state(), (3, (item,))))

    def test_no_states(self):
        things = [*no_integers(), *no_tuples(), (0,), (0, (), ()), [0, ()], (0, []), ((), 0), (0, 0), (0, None), (0, "a"),
                  (0, {}), (TOP, ()), (-1, ()), (None, ()), ("0", ()), (0, ((), 5)), (0, ((), None)), (0, ("a",)),
                  (0, (0,)), (0, (True,)), ((0, ()),), (0, ((),), 0)]
        things.extend([(item, ()) for item in no_integers()])
        for item in NO_THINGS:
            things.extend([(0, item), (0, (item,)), (0, ((), item)), (0, ((item,),)), (0, ((1, (2, item)),)),
                           (0, (((), (item, 0)),))])
        for state in things:
            if state not in ((0, ()), ((), ())):
                self.assertIs(raised(outgoing_of, state).__class__, NoState)

    def test_a_state_goes_on_apart(self):
        state = (1, ((5,), (6,)))
        link = outgoing_of(state)
        link.put((7,))
        link.known(3)
        self.assertEqual(state, (1, ((5,), (6,))))
        self.assertEqual(outgoing_of(state).state(), state)


class In(unittest.TestCase):
    def test_in_order(self):
        link = Incoming()
        self.assertEqual((link.taken(), link.held(), link.state()), (0, (), (0, ())))
        for k in range(30):
            self.assertTrue(same(link.take(k, thing(k)), [thing(k)]))
            self.assertEqual((link.taken(), link.held()), (k + 1, ()))

    def test_behind_gaps(self):
        link = Incoming()
        self.assertEqual(link.take(2, (2,)), [])
        self.assertEqual(link.take(4, (4,)), [])
        self.assertEqual(link.take(1, (1,)), [])
        self.assertEqual((link.taken(), link.held()), (0, (1, 2, 4)))
        self.assertEqual(link.state(), (0, ((1, (1,)), (2, (2,)), (4, (4,)))))
        self.assertEqual(link.take(0, (0,)), [(0,), (1,), (2,)])
        self.assertEqual((link.taken(), link.held(), link.state()), (3, (4,), (3, ((4, (4,)),))))
        self.assertEqual(link.take(3, (3,)), [(3,), (4,)])
        self.assertEqual(link.state(), (5, ()))

    def test_the_first_one_stays(self):
        link = Incoming()
        link.take(1, ("first",))
        self.assertEqual(link.take(1, ("second",)), [])
        self.assertEqual(link.state(), (0, ((1, ("first",)),)))
        self.assertEqual(link.take(0, ("begin",)), [("begin",), ("first",)])
        for number in (0, 1):
            self.assertEqual(link.take(number, ("late",)), [])
        self.assertEqual(link.state(), (2, ()))
        link.take(3, (True,))
        link.take(3, (1,))
        self.assertIs(link.state()[1][0][1][0], True)

    def test_how_far_ahead(self):
        for taken in (0, 1, 5, TOP - 5000):
            for ahead, held in ((1, True), (998, True), (999, True), (1000, False), (1001, False), (4000, False)):
                link = incoming_of((taken, ()))
                self.assertEqual(link.take(taken + ahead, (7,)), [])
                self.assertEqual(link.held(), (taken + ahead,) if held else ())
                self.assertEqual(link.take(taken, (8,)), [(8,)] + ([(7,)] if held and ahead == 1 else []))
        link = Incoming()
        link.take(1000, ("not",))
        link.take(0, ())
        link.take(1000, ("held",))
        self.assertEqual(link.state(), (1, ((1000, ("held",)),)))

    def test_a_thousand_at_once(self):
        link = Incoming()
        for k in range(999, 0, -1):
            self.assertEqual(link.take(k, (k,)), [])
        self.assertEqual(link.held(), tuple(range(1, 1000)))
        self.assertEqual(link.take(0, (0,)), [(k,) for k in range(1000)])
        self.assertEqual((link.taken(), link.held()), (1000, ()))

    def test_great_numbers(self):
        link = incoming_of((TOP - 2, ()))
        self.assertEqual(link.take(TOP - 1, (1,)), [])
        self.assertIs(raised(link.take, TOP, (1,)).__class__, NoNumber)
        self.assertEqual(link.take(TOP - 2, (0,)), [(0,), (1,)])
        self.assertEqual(link.state(), (TOP, ()))
        self.assertEqual(link.take(TOP - 1, (1,)), [])
        self.assertIs(raised(incoming_of, link.state()).__class__, NoState)

    def test_wrong_numbers(self):
        link = incoming_of((3, ((5, (5,)),)))
        for number in (TOP, TOP + 1, -1, 10 ** 20 - 1, *no_integers()):
            self.assertIs(raised(link.take, number, (1,)).__class__, NoNumber)
        self.assertEqual(link.state(), (3, ((5, (5,)),)))
        for number in (True, False):
            self.assertIs(raised(Incoming().take, number, ()).__class__, NoNumber)

    def test_lists_are_new(self):
        link = Incoming()
        link.take(1, (1,))
        told = link.take(0, (0,))
        told.append("more")
        link.take(3, (3,))
        self.assertEqual(link.take(2, (2,)), [(2,), (3,)])
        told = link.take(0, (0,))
        told.append("more")
        self.assertEqual(link.take(0, (0,)), [])

    def test_copies(self):
        link = incoming_of((3, ((5, (5,)),)))
        other = link.copy()
        self.assertIs(other.__class__, Incoming)
        self.assertEqual(other.state(), link.state())
        link.take(4, (4,))
        self.assertEqual((link.held(), other.held()), ((4, 5), (5,)))
        other.take(3, (3,))
        self.assertEqual((link.taken(), other.taken()), (3, 4))
        self.assertEqual(link.take(3, (3,)), [(3,), (4,), (5,)])
        self.assertEqual(other.take(4, ("other",)), [("other",), (5,)])


class InStates(unittest.TestCase):
    def test_there_and_back(self):
        for state in ((0, ()), (7, ()), (TOP - 1, ()), (0, ((1, ()), (999, (True, None)))),
                      (5, ((6, (1,)), (7, ("",)), (1004, ((),)))), (TOP - 1, ((TOP, (1,)), (TOP + 998, (2,))))):
            link = incoming_of(state)
            self.assertIs(link.__class__, Incoming)
            self.assertTrue(same(link.state(), state))
            self.assertEqual((link.taken(), link.held()), (state[0], tuple(pair[0] for pair in state[1])))

    def test_no_states(self):
        things = [*no_integers(), *no_tuples(), (0,), (0, (), ()), [0, ()], (0, []), ((), 0), (0, 0), (0, None), (TOP, ()),
                  (-1, ()), (0, ((0, ()),)), (0, ((1000, ()),)), (5, ((5, ()),)), (5, ((4, ()),)), (5, ((1005, ()),)),
                  (0, ((2, ()), (1, ()))), (0, ((1, ()), (1, ()))), (0, ((-1, ()),)), (0, ((1,),)), (0, ((1, (), ()),)),
                  (0, ([1, ()],)), (0, (1, ())), (0, ((1, 1),)), (0, ((1, None),)), (0, ((1, "a"),)), (0, {1: ()}),
                  (0, ((1, ()), (True, ()))), (0, ((True, ()),)), (TOP, ((TOP + 1, ()),))]
        things.extend([(item, ()) for item in no_integers()])
        for item in no_integers():
            things.extend([(0, ((item, ()),)), (0, ((1, ()), (item, ()))), (0, ((1, ()), item))])
        for item in NO_THINGS:
            things.extend([(0, item), (0, (item,)), (0, ((1, item),)), (0, ((1, ()), (2, (item,)))), (0, ((1, ((item,),)),))])
        for state in things:
            self.assertIs(raised(incoming_of, state).__class__, NoState)

    def test_a_state_goes_on_apart(self):
        state = (1, ((3, (5,)),))
        link = incoming_of(state)
        link.take(1, ())
        link.take(2, ())
        self.assertEqual(link.taken(), 4)
        self.assertEqual(incoming_of(state).state(), state)


class Deep(unittest.TestCase):
    """Things may be nested deeper than what is judged, and were returned all the same."""

    def test_deep_things(self):
        made = deep(100000)
        out, into = Outgoing(), Incoming()
        out.put(made)
        out.put(("behind",))
        self.assertEqual(outgoing_of(out.state()).waiting()[1], (1, ("behind",)))
        into.take(1, made)
        into.take(1, deep(100001))
        other = incoming_of(into.state())
        self.assertEqual(other.held(), (1,))
        self.assertIs(other.copy().take(0, ())[1], made)


class Facts(unittest.TestCase):
    def test_the_fact_of_links(self):
        for seed in range(30):
            chance = random.Random(seed)
            out, into, taken, many = Outgoing(), Incoming(), [], chance.choice((0, 1, 5, 60, 200))
            put, letters = [], []
            while len(taken) < many:
                for _ in range(chance.randint(0, 9)):
                    if len(put) < many:
                        put.append((len(put), chance.random() < 0.5))
                        self.assertEqual(out.put(put[-1]), len(put) - 1)
                letters.extend(chance.sample(out.waiting(), min(len(out.waiting()), 3)))
                letters.extend(out.waiting()[:2])
                for _ in range(chance.randint(0, 5)):
                    if letters:
                        at = chance.randrange(len(letters))
                        taken.extend(into.take(*letters[at]))
                        if chance.random() < 0.7:
                            letters.pop(at)
                self.assertEqual(taken, put[:len(taken)])
                self.assertEqual(into.taken(), len(taken))
                if chance.random() < 0.3:
                    out.known(chance.randint(0, into.taken()))
                if chance.random() < 0.2:
                    out, into = outgoing_of(out.state()), incoming_of(into.state())
                if chance.random() < 0.2:
                    out, into = out.copy(), into.copy()
            self.assertEqual(taken, put[:many])

    def test_the_first_one_again_and_again(self):
        out, into = outgoing(200), incoming_of((0, ((7, thing(7)), (8, thing(8)))))
        taken = []
        while out.waiting():
            taken.extend(into.take(*out.waiting()[0]))
            out.known(into.taken())
        self.assertTrue(same(taken, [thing(k) for k in range(200)]))


class Equality(unittest.TestCase):
    def test_equal_to_nothing_else(self):
        for link in (Outgoing(), Incoming()):
            for item in [*no_integers(), *no_tuples(), (0, ())]:
                self.assertFalse(link == item)
        self.assertFalse(Outgoing() == Incoming())


if __name__ == "__main__":
    unittest.main()
