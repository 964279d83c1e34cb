import unittest

from roadsizes import errors
from roadsizes.errors import RoadError
from tests.helpers import not_integers

ATTRIBUTES = {
    "BadHead": "value", "BadSteps": "value", "BadStep": "position", "TooDeep": "depth", "TooGreat": "size",
    "OtherHead": "head", "NoStep": "value", "BadBody": "value", "BadChain": "value", "NoBoundary": "value",
    "NoPiece": "value", "BadStretches": "value", "BadName": "value", "NameTaken": "name", "UnknownName": "name",
    "BadRoad": "value", "TooSmall": "name", "BadTells": "value", "Held": "size", "NoMouth": "value",
    "TooFar": "count", "Hopeless": "body", "BadChange": "position", "BadText": "line", "BadCommand": "command",
}


def each_error():
    return [(getattr(errors, name), attribute) for name, attribute in ATTRIBUTES.items()]


def each_value():
    return not_integers() + [0, -1, 7, 10 ** 59, object()]


class ErrorsTest(unittest.TestCase):

    def test_the_file_has_just_these_errors(self):
        defined = [name for name, value in vars(errors).items() if isinstance(value, type)]
        self.assertEqual(sorted(defined), sorted(["RoadError", *ATTRIBUTES]))
        self.assertEqual(len(ATTRIBUTES), 25)
        for name in defined:
            self.assertEqual(getattr(errors, name).__module__, "roadsizes.errors")

    def test_a_road_error_is_a_value_error(self):
        self.assertEqual(RoadError.__bases__, (ValueError,))

    def test_the_others_are_direct_subclasses(self):
        for kind, _ in each_error():
            self.assertEqual(kind.__bases__, (RoadError,))

    def test_the_very_value_is_kept_by_place(self):
        for kind, attribute in each_error():
            for value in each_value():
                self.assertIs(getattr(kind(value), attribute), value)

    def test_the_very_value_is_kept_by_name(self):
        for kind, attribute in each_error():
            for value in each_value():
                self.assertIs(getattr(kind(**{attribute: value}), attribute), value)

    def test_no_other_attribute_is_set(self):
        for kind, attribute in each_error():
            self.assertEqual(vars(kind(3)), {attribute: 3})

    def test_the_argument_is_needed(self):
        for kind, _ in each_error():
            with self.assertRaises(TypeError):
                kind()

    def test_an_error_is_of_no_other_kind(self):
        for kind, _ in each_error():
            error = kind(1)
            self.assertIsInstance(error, RoadError)
            self.assertIsInstance(error, ValueError)
            for other, _ in each_error():
                self.assertEqual(isinstance(error, other), other is kind)

    def test_errors_are_caught_as_road_errors(self):
        for kind, attribute in each_error():
            with self.assertRaises(RoadError) as caught:
                raise kind("x")
            self.assertEqual(getattr(caught.exception, attribute), "x")


if __name__ == "__main__":
    unittest.main()
