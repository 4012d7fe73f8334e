"""The error classes of the interface."""

import unittest

from stretchkeep.errors import ListError, NoNumber, NoQuestion, NoRow, NoText, TooMany

OF_A_TEXT = (TooMany, NoNumber, NoQuestion, NoRow)


class Errors(unittest.TestCase):
    def test_all_stand_right_under_list_error(self):
        self.assertEqual(ListError.__bases__, (ValueError,))
        for error in OF_A_TEXT + (NoText,):
            self.assertEqual(error.__bases__, (ListError,))

    def test_names(self):
        for error in OF_A_TEXT + (NoText, ListError):
            self.assertEqual(error.__module__, "stretchkeep.errors")
        names = [error.__name__ for error in OF_A_TEXT + (NoText,)]
        self.assertEqual(names, ["TooMany", "NoNumber", "NoQuestion", "NoRow", "NoText"])

    def test_each_is_caught_as_its_own_only(self):
        for error in OF_A_TEXT:
            with self.assertRaises(error):
                raise error("why")
            for other in OF_A_TEXT + (NoText,):
                self.assertEqual(isinstance(error("why"), other), error == other)

    def test_made_of_a_text(self):
        for error in OF_A_TEXT + (ListError,):
            self.assertEqual(str(error("why")), "why")
            self.assertIsInstance(error("why"), ValueError)

    def test_no_text_has_its_number(self):
        for number in (0, 1, 5, -1, 10 ** 60):
            self.assertEqual(NoText(number).number, number)
            self.assertEqual(NoText(number=number).number, number)

    def test_no_text_has_its_field_whatever_it_is(self):
        for number in (None, "a", (1, 2), True):
            self.assertIs(NoText(number).number, number)
        far = NoText(10 ** 6000)
        self.assertEqual(far.number, 10 ** 6000)
        self.assertIsInstance(str(far), str)
        self.assertIsInstance(repr(far), str)

    def test_no_text_is_caught_with_its_number(self):
        with self.assertRaises(ListError) as caught:
            raise NoText(3)
        self.assertEqual(caught.exception.number, 3)


if __name__ == "__main__":
    unittest.main()
