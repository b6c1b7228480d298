"""The errors [0.3]."""

import copy
import pickle
import unittest

from sameround import errors
from sameround.errors import RoundError

from tests.helpers import no_integers, no_tuples

FIELDS = {
    "BadWeb": "part", "NoHouse": None, "BadProgram": "part", "NoNumber": None, "NoCells": None,
    "NoSayings": None, "BadKeeper": "part", "TooMany": "most", "NotAsleep": None, "NoWord": None,
    "NoGlass": None, "NoMove": None, "NoChoices": "index", "BadRecord": "index", "NoMoment": None,
    "NoState": None, "NoParcel": None, "NoRow": None, "BadRow": "place", "NoCut": None,
    "NoBlocks": None, "NoDeed": None, "NoPast": None, "NoDisk": None, "OtherHouse": None,
    "BadDeeds": "index", "BadText": "line", "BadMoves": "index", "NoLine": None, "NoName": "name",
}


def made(name, thing=7):
    """An error of this name, the thing in its field if it has one."""
    if FIELDS[name] is None:
        return getattr(errors, name)()
    return getattr(errors, name)(thing)


class Bases(unittest.TestCase):
    def test_there_are_thirty_and_no_others(self):
        classes = [name for name in vars(errors) if isinstance(getattr(errors, name), type)]
        self.assertEqual(len(FIELDS), 30)
        self.assertEqual(sorted(classes), sorted([*FIELDS, "RoundError"]))

    def test_each_derives_directly_from_round_error(self):
        self.assertEqual(RoundError.__bases__, (ValueError,))
        for name in FIELDS:
            with self.subTest(name):
                self.assertEqual(getattr(errors, name).__bases__, (RoundError,))

    def test_each_is_defined_in_the_file(self):
        for name in [*FIELDS, "RoundError"]:
            self.assertEqual(getattr(errors, name).__module__, "sameround.errors")
            self.assertEqual(getattr(errors, name).__name__, name)

    def test_each_is_caught_by_its_own_class_and_by_round_error_alone(self):
        for name in FIELDS:
            wrong = made(name)
            for other in FIELDS:
                with self.subTest(name=name, other=other):
                    self.assertEqual(isinstance(wrong, getattr(errors, other)), name == other)
            for catching in (getattr(errors, name), RoundError, ValueError):
                try:
                    raise wrong
                except catching as caught:
                    self.assertIs(caught, wrong)

    def test_round_error_is_caught_by_no_other_one(self):
        for name in FIELDS:
            self.assertNotIsInstance(RoundError(), getattr(errors, name))


class Fields(unittest.TestCase):
    def test_fields_keep_what_is_passed(self):
        for name, field in FIELDS.items():
            if field is not None:
                for thing in [*no_integers(), *no_tuples()]:
                    with self.subTest(name):
                        self.assertEqual(list(vars(made(name, thing))), [field])
                        self.assertIs(getattr(made(name, thing), field), thing)

    def test_errors_without_fields_have_none(self):
        for name, field in FIELDS.items():
            if field is None:
                self.assertEqual(vars(made(name)), {})

    def test_each_is_made_with_just_its_fields(self):
        for name, field in FIELDS.items():
            kind = getattr(errors, name)
            with self.subTest(name):
                if field is None:
                    self.assertRaises(TypeError, kind, 1)
                else:
                    self.assertRaises(TypeError, kind)
                self.assertRaises(TypeError, kind, 1, 2)

    def test_errors_can_be_copied(self):
        for name, field in FIELDS.items():
            for other in (copy.copy(made(name)), pickle.loads(pickle.dumps(made(name)))):
                self.assertIs(other.__class__, getattr(errors, name))
                self.assertEqual(vars(other), vars(made(name)))


if __name__ == "__main__":
    unittest.main()
