import unittest

from turnfloor import errors

NAMES = ["BadFloor", "Parted", "Holed", "NoCell", "BadLaying", "NoLaying", "NoHeights", "NoTurn", "BadText"]


class ErrorsTest(unittest.TestCase):
    def test_floor_error_is_right_under_value_error(self):
        self.assertEqual(errors.FloorError.__bases__, (ValueError,))

    def test_each_refusal_is_right_under_floor_error(self):
        for name in NAMES:
            with self.subTest(name):
                self.assertEqual(getattr(errors, name).__bases__, (errors.FloorError,))

    def test_each_refusal_is_a_class_of_its_own_in_this_file(self):
        classes = [getattr(errors, name) for name in ["FloorError", *NAMES]]
        self.assertEqual(len(set(classes)), 10)
        self.assertEqual([kind.__name__ for kind in classes], ["FloorError", *NAMES])
        self.assertEqual({kind.__module__ for kind in classes}, {"turnfloor.errors"})

    def test_they_can_be_raised_and_caught(self):
        for name in NAMES:
            with self.subTest(name), self.assertRaises(errors.FloorError):
                raise getattr(errors, name)("why")


if __name__ == "__main__":
    unittest.main()
