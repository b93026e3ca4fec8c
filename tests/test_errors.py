import unittest

from loopmover import errors
from loopmover.errors import BadLine, BadName, BadNumber, BadRow, LoopError, TooDeep

FIVE = (BadRow, BadName, BadNumber, BadLine, TooDeep)
PLAIN = (BadRow, BadName, BadNumber)
PLACED = (BadLine, TooDeep)


class Families(unittest.TestCase):
    def test_any_refusal_is_a_value_error(self):
        self.assertTrue(issubclass(LoopError, ValueError))

    def test_each_of_the_five_is_a_refusal(self):
        for kind in FIVE:
            with self.subTest(kind=kind.__name__):
                self.assertTrue(issubclass(kind, LoopError))
                self.assertIsNot(kind, LoopError)

    def test_none_of_the_five_stands_under_another(self):
        for lower in FIVE:
            for upper in FIVE:
                if lower is not upper:
                    with self.subTest(lower=lower.__name__, upper=upper.__name__):
                        self.assertFalse(issubclass(lower, upper))

    def test_each_is_defined_in_the_file_of_the_interface(self):
        for kind in FIVE + (LoopError,):
            with self.subTest(kind=kind.__name__):
                self.assertEqual(kind.__module__, "loopmover.errors")
                self.assertIs(getattr(errors, kind.__name__), kind)


class Places(unittest.TestCase):
    def test_place_is_set_when_the_error_is_created(self):
        for kind in PLACED:
            for place in (0, 1, 20, 1999):
                with self.subTest(kind=kind.__name__, place=place):
                    self.assertEqual(kind(place).place, place)
                    self.assertIsInstance(kind(place).place, int)

    def test_two_errors_keep_their_own_places(self):
        for kind in PLACED:
            first, second = kind(3), kind(4)
            self.assertEqual((first.place, second.place), (3, 4))

    def test_each_can_be_raised_and_caught_as_a_refusal(self):
        for kind in PLACED:
            with self.assertRaises(LoopError) as caught:
                raise kind(7)
            self.assertIs(type(caught.exception), kind)
            self.assertEqual(caught.exception.place, 7)
        for kind in PLAIN + (LoopError,):
            with self.assertRaises(ValueError) as caught:
                raise kind("why")
            self.assertIs(type(caught.exception), kind)


if __name__ == "__main__":
    unittest.main()
