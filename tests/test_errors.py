"""Point 3: the refusals and how they stand beneath each other."""

import unittest

from ringfloor import errors

NAMES = [
    "NoWeb", "NoText", "NoDrawing", "NoOrders", "NoTie", "Looped", "TooMany", "NoNumbers", "NoEnd", "NoKind",
    "NoWalk", "NoRound", "NoSeam", "NoRing", "Thick", "Apart", "NoLine", "NoName", "WrongSort", "NoDeed",
]


class Refusals(unittest.TestCase):
    def test_floor_error_stands_beneath_value_error(self):
        self.assertEqual(errors.FloorError.__bases__, (ValueError,))

    def test_each_refusal_stands_beneath_floor_error_alone(self):
        self.assertEqual(len(NAMES), 20)
        for name in NAMES:
            with self.subTest(name):
                self.assertEqual(getattr(errors, name).__bases__, (errors.FloorError,))

    def test_no_refusal_is_another_one(self):
        self.assertEqual(len({getattr(errors, name) for name in NAMES}), 20)

    def test_each_is_caught_as_floor_error_and_as_value_error(self):
        for name in NAMES:
            for caught in (errors.FloorError, ValueError, getattr(errors, name)):
                with self.subTest(name), self.assertRaises(caught):
                    raise getattr(errors, name)()

    def test_classes_are_defined_in_the_file(self):
        for name in NAMES + ["FloorError"]:
            self.assertEqual(getattr(errors, name).__module__, "ringfloor.errors")
            self.assertEqual(getattr(errors, name).__name__, name)

    def test_thick_has_places_of_its_own(self):
        left = [2, 3, 5]
        thick = errors.Thick(left)
        left.append(7)
        self.assertEqual(thick.places, [2, 3, 5])
        self.assertEqual(errors.Thick().places, [])


if __name__ == "__main__":
    unittest.main()
