"""Point 5: the errors and their attributes."""

import copy
import pickle
import unittest

from flatrooms import errors

WITH = {"BadBook": "part", "BadNumber": "part", "BadText": "at", "NoWatch": "name", "TooMany": "most"}
WITHOUT = ["BadDeed", "BadLive", "BadLot", "BadName", "BadPrime", "BadRow", "BadStart", "BadSum",
           "BadTable", "BadThing", "BadTower", "BadWeights", "NothingLeft"]


class Errors(unittest.TestCase):
    def test_there_are_eighteen_and_their_base(self):
        found = sorted(name for name, thing in vars(errors).items()
                       if isinstance(thing, type) and issubclass(thing, Exception))
        self.assertEqual(found, sorted([*WITH, *WITHOUT, "FlatError"]))
        self.assertEqual(len(found), 19)

    def test_all_lie_directly_below_flat_error(self):
        self.assertEqual(errors.FlatError.__bases__, (ValueError,))
        for name in [*WITH, *WITHOUT]:
            self.assertEqual(getattr(errors, name).__bases__, (errors.FlatError,), name)

    def test_an_attribute_may_be_any_value(self):
        deep = []
        for _ in range(100000):
            deep = [deep]
        for name, attribute in WITH.items():
            made = getattr(errors, name)
            for value in [None, 7, True, "size", "", [1, [2]], (), {"a": {1: 2}}, object(), deep]:
                self.assertIs(getattr(made(value), attribute), value)
                self.assertIs(getattr(made(**{attribute: value}), attribute), value)
        while deep:
            deep = deep.pop()

    def test_an_attribute_is_wanted(self):
        for name in WITH:
            with self.assertRaises(TypeError):
                getattr(errors, name)()

    def test_the_others_are_made_of_a_message(self):
        for name in [*WITHOUT, "FlatError"]:
            made = getattr(errors, name)("what is wrong")
            self.assertEqual(str(made), "what is wrong")
            self.assertEqual(vars(made), {})

    def test_they_are_caught_as_value_errors(self):
        for name in [*WITH, *WITHOUT]:
            with self.assertRaises(ValueError):
                raise getattr(errors, name)("x")

    def test_they_can_be_copied_and_show_what_they_are_made_of(self):
        for name, attribute in WITH.items():
            made = getattr(errors, name)("size")
            self.assertEqual(getattr(copy.copy(made), attribute), "size")
            self.assertEqual(getattr(pickle.loads(pickle.dumps(made)), attribute), "size")
            self.assertEqual(str(made), "size")


if __name__ == "__main__":
    unittest.main()
