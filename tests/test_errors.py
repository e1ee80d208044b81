"""Point 6 and the interface: the refusals."""

import unittest

from orderwheel.errors import NoNote, WheelError


class ErrorClasses(unittest.TestCase):
    def test_wheel_error_is_a_value_error(self):
        self.assertEqual(WheelError.__bases__, (ValueError,))

    def test_no_note_is_a_wheel_error(self):
        self.assertEqual(NoNote.__bases__, (WheelError,))

    def test_no_note_is_taken_by_each_of_its_names(self):
        for name in (NoNote, WheelError, ValueError):
            with self.subTest(name=name):
                with self.assertRaises(name):
                    raise NoNote("no note is on the wheel")

    def test_wheel_error_is_taken_as_a_value_error(self):
        with self.assertRaises(ValueError):
            raise WheelError("refused")

    def test_the_wider_names_are_not_the_narrower_ones(self):
        self.assertNotIsInstance(WheelError("refused"), NoNote)
        self.assertNotIsInstance(ValueError("refused"), WheelError)

    def test_they_are_made_with_words_and_without(self):
        for made in (WheelError(), NoNote()):
            self.assertEqual(made.args, ())
        for made in (WheelError("why"), NoNote("why")):
            self.assertEqual(str(made), "why")


if __name__ == "__main__":
    unittest.main()
