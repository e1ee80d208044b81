"""Points 4 and 6: the wheels' sizes, and when a wheel is changed for a narrower one."""

import inspect
import unittest

from orderwheel.sizes import narrower, wider

FIRST_SIZES = [3, 7, 15, 31, 63, 127, 255, 511, 1023]

# Beyond what a machine word or a float holds, so that a rounded answer shows.
VERY_WIDE = [2 ** k - 1 for k in (31, 32, 53, 54, 63, 64, 65, 200, 1000, 2500)]


class SizesTest(unittest.TestCase):
    def assert_whole(self, answer, expected):
        self.assertIs(type(answer), int)
        # Not assertEqual: the widest numbers are too long to be shown in full.
        self.assertTrue(answer == expected, "not the clips that were asked for")


class Wider(SizesTest):
    def test_the_first_wheels(self):
        self.assert_whole(wider(3), 7)
        self.assert_whole(wider(7), 15)
        self.assert_whole(wider(15), 31)
        self.assert_whole(wider(31), 63)

    def test_twice_the_clips_and_one_more(self):
        for size in FIRST_SIZES + VERY_WIDE:
            with self.subTest(bits=size.bit_length()):
                self.assert_whole(wider(size), size + size + 1)

    def test_step_by_step_from_the_least_wheel(self):
        size = 3
        for bits in range(3, 600):
            size = wider(size)
            self.assert_whole(size, 2 ** bits - 1)

    def test_its_argument(self):
        self.assertEqual(list(inspect.signature(wider).parameters), ["size"])
        self.assert_whole(wider(size=7), 15)


class Narrower(SizesTest):
    def test_three_clips_stay_three(self):
        for held in (0, 1, 2, 3):
            with self.subTest(held=held):
                self.assert_whole(narrower(3, held), 3)

    def test_seven_clips(self):
        self.assertEqual([narrower(7, held) for held in range(8)], [3, 3, 7, 7, 7, 7, 7, 7])

    def test_fifteen_clips(self):
        self.assertEqual([narrower(15, held) for held in range(16)], [7] * 4 + [15] * 12)

    def test_thirty_one_clips(self):
        self.assertEqual([narrower(31, held) for held in range(32)], [15] * 8 + [31] * 24)

    def test_every_number_of_notes_on_the_first_wheels(self):
        for below, size in zip(FIRST_SIZES, FIRST_SIZES[1:]):
            for held in range(size + 1):
                expected = below if held + held + held + held < size else size
                with self.subTest(size=size, held=held):
                    self.assert_whole(narrower(size, held), expected)

    def test_no_note_left_is_one_step_and_no_more(self):
        for size in FIRST_SIZES[1:] + VERY_WIDE:
            with self.subTest(bits=size.bit_length()):
                answer = narrower(size, 0)
                self.assertIs(type(answer), int)
                self.assertTrue(answer + answer + 1 == size, "not one step narrower")

    def test_as_many_notes_as_clips(self):
        for size in FIRST_SIZES + VERY_WIDE:
            with self.subTest(bits=size.bit_length()):
                self.assert_whole(narrower(size, size), size)

    def test_both_sides_of_the_edge(self):
        for size in FIRST_SIZES[1:] + VERY_WIDE:
            # A size is one short of a multiple of four from 7 on.
            kept = (size + 1) // 4
            with self.subTest(bits=size.bit_length()):
                self.assertTrue(4 * (kept - 1) < size <= 4 * kept)
                self.assert_whole(narrower(size, kept - 1), (size - 1) // 2)
                self.assert_whole(narrower(size, kept), size)

    def test_it_undoes_wider(self):
        for size in FIRST_SIZES + VERY_WIDE:
            with self.subTest(bits=size.bit_length()):
                self.assert_whole(narrower(wider(size), 1), size)

    def test_its_arguments(self):
        self.assertEqual(list(inspect.signature(narrower).parameters), ["size", "held"])
        self.assert_whole(narrower(held=1, size=7), 3)


if __name__ == "__main__":
    unittest.main()
