"""The interface of the modules that are there: each name in its own file, each method in its class."""

import importlib
import inspect
import unittest

# The functions and classes of each file; the errors have a test of their own.
INTERFACE = {
    "webs": ["Web", "neighbours", "far", "width"],
    "programs": ["Program"],
    "lockstep": ["start_cells", "sayings", "next_cells", "lockstep", "many_said"],
    "known": ["tree_program", "least_program", "walk_program"],
    "keepers": ["Keeper", "Course", "alpha", "beta", "gamma", "clusters", "leader_of", "depth",
                "words_a_round", "is_keeper"],
    "states": ["begun", "is_word", "is_state", "started", "heard"],
    "glass": ["first_glass", "moved", "is_glass", "moves", "broken", "run_out", "all_words", "beats"],
    "records": ["Record", "first_wrong", "entered", "cells_then", "on_way", "causes", "vectors",
                "longest_chain", "recorded"],
    "links": ["Outgoing", "outgoing_of", "Incoming", "incoming_of"],
    "rows": ["row_of", "sealed", "parcel_of", "is_parcel", "mark", "unsealed"],
    "disks": ["Disk", "kept_parcels"],
    "posts": ["Post", "post_of"],
    "texts": ["web_text", "program_text", "keeper_text", "course_text", "read_web", "read_program",
              "read_keeper", "read_course"],
    "savings": ["SavedHouse"],
    "nets": ["Net", "led_by", "round_trip", "settle"],
    "films": ["Reel", "moves_of", "drawn", "drawn_rounds"],
    "desks": ["Desk"],
}
METHODS = {
    "Web": ["__eq__", "__init__"],
    "Program": ["__eq__", "__init__"],
    "Keeper": ["__eq__", "__init__"],
    "Course": ["__eq__", "__init__"],
    "Record": ["__eq__", "__init__"],
    "Outgoing": ["__init__", "put", "known", "many_put", "waiting", "state", "copy"],
    "Incoming": ["__init__", "take", "taken", "held", "state", "copy"],
    "Disk": ["__init__", "write", "sync", "synced", "blocks", "cut", "drop", "copy"],
    "Post": ["__init__", "state", "past", "letter", "deed", "copy"],
    "SavedHouse": ["__init__", "state", "past", "letter", "deed", "copy", "keep", "moved"],
    "Net": ["__init__", "house", "disk", "bag", "glass", "deed"],
    "Reel": ["__init__", "stands", "worked", "glass_now", "seek", "kept", "copy"],
    "Desk": ["__init__", "tell"],
}
# How many arguments each of them takes, but for the object itself.
ARGUMENTS = {
    "Web": 2, "neighbours": 2, "far": 3, "width": 1, "Program": 4, "start_cells": 3, "sayings": 5,
    "next_cells": 6, "lockstep": 3, "many_said": 3, "tree_program": 1, "least_program": 0,
    "walk_program": 1, "Keeper": 3, "Course": 3, "alpha": 1, "beta": 1, "gamma": 2, "clusters": 1,
    "leader_of": 2, "depth": 1, "words_a_round": 1, "is_keeper": 2, "begun": 2, "is_word": 1,
    "is_state": 3, "started": 3, "heard": 5, "first_glass": 1, "moved": 3, "is_glass": 2, "moves": 2,
    "broken": 2, "run_out": 2, "all_words": 1, "beats": 1, "Record": 4, "first_wrong": 1, "entered": 2,
    "cells_then": 2, "on_way": 2, "causes": 1, "vectors": 1, "longest_chain": 1, "recorded": 2,
    "Outgoing": 0, "outgoing_of": 1, "Incoming": 0, "incoming_of": 1, "row_of": 1, "sealed": 1,
    "parcel_of": 1, "is_parcel": 1, "mark": 1, "unsealed": 1, "Disk": 0, "kept_parcels": 1, "Post": 2,
    "post_of": 3, "web_text": 1, "program_text": 1, "keeper_text": 1, "course_text": 1, "read_web": 1,
    "read_program": 1, "read_keeper": 1, "read_course": 1, "SavedHouse": 3, "Net": 1, "led_by": 2,
    "round_trip": 1, "settle": 2, "Reel": 3, "moves_of": 2, "drawn": 2, "drawn_rounds": 2, "Desk": 0,
}


class Interface(unittest.TestCase):
    def test_each_name_is_defined_in_its_file(self):
        for file, names in INTERFACE.items():
            module = importlib.import_module(f"sameround.{file}")
            for name in names:
                with self.subTest(name):
                    self.assertEqual(getattr(module, name).__module__, f"sameround.{file}")

    def test_each_takes_its_arguments(self):
        self.assertEqual(sorted(ARGUMENTS), sorted([name for names in INTERFACE.values() for name in names]))
        for file, names in INTERFACE.items():
            module = importlib.import_module(f"sameround.{file}")
            for name in names:
                with self.subTest(name):
                    taken = inspect.signature(getattr(module, name)).parameters
                    self.assertEqual(len(taken), ARGUMENTS[name])

    def test_each_method_stands_in_its_class(self):
        for file, names in INTERFACE.items():
            module = importlib.import_module(f"sameround.{file}")
            for name in names:
                for method in METHODS.get(name, []):
                    self.assertIn(method, vars(getattr(module, name)))


if __name__ == "__main__":
    unittest.main()
