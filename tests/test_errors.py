import unittest

from surelyread.errors import (
    BadNumbers, BadReading, BadRegion, BadWords, Fault, OutsideImage, PageError, TooLarge, TooMany)

ALL = (Fault, TooLarge, BadNumbers, BadRegion, BadReading, BadWords, OutsideImage, TooMany)


class Errors(unittest.TestCase):
    def test_all_are_page_errors_and_value_errors(self):
        self.assertTrue(issubclass(PageError, ValueError))
        for error in ALL:
            with self.subTest(error=error):
                self.assertTrue(issubclass(error, PageError))
                self.assertTrue(issubclass(error, ValueError))
                self.assertIsNot(error, PageError)

    def test_none_is_a_base_of_another(self):
        for one in ALL:
            for other in ALL:
                if one is not other:
                    with self.subTest(one=one, other=other):
                        self.assertFalse(issubclass(one, other))

    def test_fields_of_a_fault(self):
        fault = Fault(3, 7, "unexpected sign")
        self.assertEqual((fault.line, fault.column, fault.reason), (3, 7, "unexpected sign"))

    def test_field_of_too_large(self):
        self.assertEqual(TooLarge("image").reason, "image")

    def test_field_of_bad_numbers(self):
        self.assertEqual(BadNumbers(12).place, 12)
        self.assertEqual(BadNumbers(0).place, 0)

    def test_the_others_are_made_without_arguments(self):
        for error in (BadRegion, BadReading, BadWords, OutsideImage, TooMany):
            with self.subTest(error=error):
                with self.assertRaises(error):
                    raise error()

    def test_they_are_caught_as_page_errors(self):
        made = (Fault(1, 2, "x"), TooLarge("x"), BadNumbers(1), BadRegion(), BadReading(),
                BadWords(), OutsideImage(), TooMany())
        for error in made:
            with self.subTest(error=error):
                with self.assertRaises(PageError):
                    raise error


if __name__ == "__main__":
    unittest.main()
