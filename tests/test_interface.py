"""The interface of the modules that are there: each name in its own file, each method in its class."""

import importlib
import unittest

# The functions and classes of each file; the errors have a test of their own.
INTERFACE = {
    "webs": ["Web", "neighbours", "far", "width"],
    "programs": ["Program"],
    "lockstep": ["start_cells", "sayings", "next_cells", "lockstep", "many_said"],
    "known": ["tree_program", "least_program", "walk_program"],
    "keepers": ["Keeper", "Course", "alpha", "beta", "gamma", "clusters", "leader_of", "depth",
                "words_a_round", "is_keeper"],
    "states": ["begun", "is_word", "is_state", "started", "heard"],
}
METHODS = {
    "Web": ["__eq__", "__init__"],
    "Program": ["__eq__", "__init__"],
    "Keeper": ["__eq__", "__init__"],
    "Course": ["__eq__", "__init__"],
}


class Interface(unittest.TestCase):
    def test_each_name_is_defined_in_its_file(self):
        for file, names in INTERFACE.items():
            module = importlib.import_module(f"sameround.{file}")
            for name in names:
                with self.subTest(name):
                    self.assertEqual(getattr(module, name).__module__, f"sameround.{file}")

    def test_each_method_stands_in_its_class(self):
        for file, names in INTERFACE.items():
            module = importlib.import_module(f"sameround.{file}")
            for name in names:
                for method in METHODS.get(name, []):
                    self.assertIn(method, vars(getattr(module, name)))


if __name__ == "__main__":
    unittest.main()
