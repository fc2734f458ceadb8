"""The interface: names, parameters and the file of each; and the conventions of point 3 that hold for all."""

import inspect
import unittest
from importlib import import_module

INTERFACE = {
    "books": {"Book": ["size", "bases"]},
    "ranks": {"rank": ["book", "lot"], "closure": ["book", "lot"], "free_lots": ["book"], "least_bound": ["book"],
              "idle": ["book"], "sure": ["book"], "book_of_bound": ["size", "lots"]},
    "makers": {"even_book": ["rank", "size"], "table_book": ["prime", "rows"], "web_book": ["places", "ties"]},
    "sides": {"turned": ["book"], "left_out": ["book", "thing"], "drawn_in": ["book", "thing"],
              "cut_short": ["book"], "side_by_side": ["one", "other"], "made_freer": ["book", "lot"]},
    "alike": {"renamed": ["book", "order"], "alike": ["one", "other"], "plain_book": ["book"],
              "all_books": ["size", "rank"]},
    "flats": {"flats": ["book"], "below": ["book", "flat"], "above": ["book", "flat"], "covers": ["book", "flat"]},
}


class Interface(unittest.TestCase):
    def test_names_parameters_and_files(self):
        for file, names in INTERFACE.items():
            module = import_module(f"flatrooms.{file}")
            for name, parameters in names.items():
                thing = getattr(module, name)
                self.assertEqual(thing.__module__, f"flatrooms.{file}")
                self.assertEqual(list(inspect.signature(thing).parameters), parameters, name)


if __name__ == "__main__":
    unittest.main()
