"""The interface: names, parameters and the file of each."""

import inspect
import unittest
from importlib import import_module

INTERFACE = {
    "books": {"Book": ["size", "bases"]},
    "ranks": {"rank": ["book", "lot"], "closure": ["book", "lot"], "free_lots": ["book"], "least_bound": ["book"],
              "idle": ["book"], "sure": ["book"], "book_of_bound": ["size", "lots"]},
    "makers": {"even_book": ["rank", "size"], "table_book": ["prime", "rows"], "web_book": ["places", "ties"]},
    "sides": {"turned": ["book"], "left_out": ["book", "thing"], "drawn_in": ["book", "thing"],
              "cut_short": ["book"], "side_by_side": ["one", "other"], "made_freer": ["book", "lot"]},
    "alike": {"renamed": ["book", "order"], "alike": ["one", "other"], "plain_book": ["book"],
              "all_books": ["size", "rank"]},
    "flats": {"flats": ["book"], "below": ["book", "flat"], "above": ["book", "flat"], "covers": ["book", "flat"]},
    "signs": {"signs": ["book"], "sign_row": ["book"], "short_row": ["book"]},
    "unbroken": {"unbroken": ["book"], "shadings": ["places", "ties", "hues"]},
    "sweeps": {"sweep": ["book", "order"]},
    "towers": {"tidy_towers": ["book", "degree"], "room_sizes": ["book"]},
    "rooms": {"tidied": ["book", "towers"], "multiplied": ["book", "one", "other"],
              "added": ["book", "one", "other", "times"], "powered": ["book", "one", "many"],
              "last_number": ["book", "towers"]},
    "sums": {"outer_sum": ["book"], "inner_sum": ["book"]},
    "tables": {"determinant": ["table"], "sign_counts": ["table"]},
    "pairing": {"opposite_table": ["book", "degree"], "told_by_last": ["book", "degree", "numbers"]},
    "weights": {"is_weights": ["size", "thing"], "bends": ["size", "weights", "amount"],
                "weight_sum": ["book", "weights"]},
    "steps": {"path_table": ["book", "degree", "sums"]},
    "forms": {"form_table": ["book", "degree", "sums"], "kept_sums": ["book", "degree", "sums"]},
    "mixes": {"mixed_numbers": ["book"], "mixed_volumes": ["book", "one", "other"],
              "falling_chains": ["book", "length"]},
    "towernumbers": {"tower_number": ["book", "tower"]},
    "volumes": {"volume_rows": ["book"], "volume": ["book", "weights"]},
    "slopes": {"second_slopes": ["book", "weights"]},
    "letters": {"by_letter": ["book", "flat", "low", "high"]},
    "leavings": {"both_flats": ["book", "thing"], "led_in": ["book", "thing", "towers"]},
    "splits": {"by_thing": ["book", "thing", "flat", "low", "high"], "split_by": ["book", "thing", "towers"]},
    "sizerows": {"sizes_by_signs": ["book"], "sizes_by_thing": ["book", "thing"], "middle_row": ["book"]},
    "cuttings": {"cut_led": ["book", "towers"]},
    "wides": {"wide_towers": ["book", "degree"], "wide_sizes": ["book"], "wide_tidied": ["book", "towers"],
              "wide_multiplied": ["book", "one", "other"], "wide_powered": ["book", "one", "many"],
              "wide_last": ["book", "towers"]},
    "widesums": {"thing_letter": ["book", "thing"], "bare_letter": ["book"], "lot_letter": ["book", "lot"]},
    "widesteps": {"wide_pairing": ["book", "degree"], "is_rising": ["book", "thing"],
                  "rising_sum": ["book", "weights"], "wide_form": ["book", "sums", "degree"]},
    "flatsums": {"join": ["book", "one", "other"], "flats_joined": ["book", "one", "other"],
                 "flats_graded": ["book", "one", "other"], "single_sums": ["book"]},
    "jointables": {"join_table": ["book", "numbers"], "told_determinant": ["book", "numbers"]},
    "rising": {"flat_row": ["book"], "rise_table": ["book", "weights", "low", "high"], "is_modular": ["book"]},
    "risemaps": {"rise_map": ["book", "low", "high"], "rise_bar": ["book", "low", "high"]},
    "freerows": {"free_row": ["book"], "free_gaps": ["book"]},
    "rows": {"is_row": ["thing"], "row_product": ["one", "other"], "between": ["book", "flat", "other"]},
    "ownrows": {"own_rows": ["book"], "own_row": ["book"]},
    "backrows": {"back_row": ["book"]},
    "mirrors": {"mirror_row": ["book"], "bent_row": ["book"]},
    "evenrows": {"even_row": ["rank", "size"]},
    "leftrows": {"half_number": ["book"], "own_row_left": ["book", "thing"], "mirror_row_left": ["book", "thing"]},
    "live": {"started": ["start"], "is_deed": ["thing"], "LiveBook": ["start"]},
    "booktexts": {"book_text": ["book"], "book_of_text": ["text"]},
    "deedtexts": {"start_text": ["start"], "start_of_text": ["text"], "deed_text": ["deed"], "deed_of_text": ["text"]},
    "journals": {"journal_text": ["live"], "led_live": ["text"]},
    "desk": {"Desk": ["start"]},
}

METHODS = {("live", "LiveBook"): {"do": ["deed"], "deeds": [], "undo": [], "redo": [], "told": [],
                                  "watch": ["name", "lot"], "unwatch": ["name"], "watched": []},
           ("desk", "Desk"): {"say": ["line"]}}

ATTRIBUTES = {("books", "Book"): ((2, [(0,)]), ("size", "bases", "rank")),
              ("live", "LiveBook"): ((("even", 2, 3),), ("start", "book", "standing")),
              ("desk", "Desk"): ((("even", 2, 3),), ("live",))}


class Interface(unittest.TestCase):
    def test_names_parameters_and_files(self):
        for file, names in INTERFACE.items():
            module = import_module(f"flatrooms.{file}")
            for name, parameters in names.items():
                thing = getattr(module, name)
                self.assertEqual(thing.__module__, f"flatrooms.{file}")
                self.assertEqual(list(inspect.signature(thing).parameters), parameters, name)

    def test_methods_stand_in_the_class_itself(self):
        for (file, name), methods in METHODS.items():
            own = vars(getattr(import_module(f"flatrooms.{file}"), name))
            for method, parameters in methods.items():
                self.assertEqual(list(inspect.signature(own[method]).parameters), ["self", *parameters], method)

    def test_attributes_are_set_at_once(self):
        for (file, name), (given, attributes) in ATTRIBUTES.items():
            thing = getattr(import_module(f"flatrooms.{file}"), name)(*given)
            self.assertLessEqual(set(attributes), set(vars(thing)))


if __name__ == "__main__":
    unittest.main()
