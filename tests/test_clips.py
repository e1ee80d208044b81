"""Points 2, 3 and 7: going on round a wheel, and what a new wheel's clips hold."""

import inspect
import unittest

from orderwheel.clips import place, relaid

# Beyond what a machine word or a float holds, so that a rounded answer shows.
VERY_GREAT = [10 ** 9 + 7, 2 ** 53 + 1, 2 ** 64 - 1, 2 ** 200 + 3, 10 ** 400 + 1]


def walked(size, first, count):
    """The clip that is reached by going on one clip at a time."""
    clip = first
    for step in range(count):
        clip = 0 if clip == size - 1 else clip + 1
    return clip


def hung(size, first, notes):
    """The clips of a wheel on which the notes hang from the first clip on."""
    clips = [None] * size
    for count, note in enumerate(notes):
        clips[walked(size, first, count)] = note
    return clips


class Place(unittest.TestCase):
    def assert_clip(self, answer, expected):
        self.assertIs(type(answer), int)
        self.assertTrue(answer == expected, "not the clip that was asked for")

    def test_no_clip_on(self):
        for first in range(7):
            self.assert_clip(place(7, first, 0), first)

    def test_to_the_last_clip(self):
        self.assert_clip(place(7, 0, 6), 6)
        self.assert_clip(place(7, 4, 2), 6)
        self.assert_clip(place(7, 6, 0), 6)

    def test_to_clip_nought(self):
        self.assert_clip(place(7, 6, 1), 0)
        self.assert_clip(place(7, 4, 3), 0)
        self.assert_clip(place(3, 1, 2), 0)

    def test_past_clip_nought(self):
        self.assert_clip(place(7, 5, 4), 2)
        self.assert_clip(place(3, 2, 2), 1)

    def test_once_round(self):
        for size in (1, 2, 3, 4, 7, 10, 15):
            for first in range(size):
                self.assert_clip(place(size, first, size), first)

    def test_many_times_round(self):
        for size in (1, 2, 3, 4, 7, 10, 15):
            for first in range(size):
                self.assert_clip(place(size, first, 1000 * size), first)
        self.assert_clip(place(7, 5, 7 * 1000 + 3), 1)

    def test_one_clip(self):
        for count in (0, 1, 2, 3, 100, 10 ** 50):
            self.assert_clip(place(1, 0, count), 0)

    def test_step_by_step(self):
        for size in range(1, 18):
            for first in range(size):
                for count in range(4 * size + 2):
                    with self.subTest(size=size, first=first, count=count):
                        self.assert_clip(place(size, first, count), walked(size, first, count))

    def test_very_wide_wheels(self):
        for size in VERY_GREAT:
            with self.subTest(bits=size.bit_length()):
                self.assert_clip(place(size, 0, size - 1), size - 1)
                self.assert_clip(place(size, size - 1, 0), size - 1)
                self.assert_clip(place(size, size - 1, 1), 0)
                self.assert_clip(place(size, size - 2, 5), 3)
                self.assert_clip(place(size, size - 1, size - 1), size - 2)
                self.assert_clip(place(size, size - 1, size), size - 1)

    def test_very_great_counts(self):
        for rounds in VERY_GREAT:
            for size in (1, 3, 7, 10, 31):
                with self.subTest(bits=rounds.bit_length(), size=size):
                    self.assert_clip(place(size, size - 1, rounds * size), size - 1)
                    self.assert_clip(place(size, size - 1, rounds * size + 1), 0)
                    self.assert_clip(place(size, 0, rounds * size + size - 1), size - 1)

    def test_very_wide_wheels_and_very_great_counts(self):
        for size in VERY_GREAT:
            for rounds in VERY_GREAT:
                with self.subTest(bits=size.bit_length(), round_bits=rounds.bit_length()):
                    self.assert_clip(place(size, size - 3, rounds * size + 5), 2)

    def test_its_arguments(self):
        self.assertEqual(list(inspect.signature(place).parameters), ["size", "first", "count"])
        self.assert_clip(place(count=2, first=6, size=7), 1)


class Relaid(unittest.TestCase):
    def assert_clips(self, answer, expected):
        self.assertIs(type(answer), list)
        self.assertEqual(answer, expected)

    def test_a_wider_wheel(self):
        self.assert_clips(relaid(["a", "b", "c"], 0, 3, 7), ["a", "b", "c", None, None, None, None])

    def test_a_wider_wheel_for_notes_that_go_on_round_the_end(self):
        self.assert_clips(relaid(["b", "c", "a"], 2, 3, 7), ["a", "b", "c", None, None, None, None])
        self.assert_clips(relaid(["c", "a", "b"], 1, 3, 5), ["a", "b", "c", None, None])

    def test_a_narrower_wheel(self):
        self.assert_clips(relaid([None, None, None, "a", "b", None, None], 3, 2, 3), ["a", "b", None])

    def test_a_narrower_wheel_for_notes_that_go_on_round_the_end(self):
        self.assert_clips(relaid(["b", "c", None, None, None, None, "a"], 6, 3, 4), ["a", "b", "c", None])

    def test_a_wheel_as_wide(self):
        self.assert_clips(relaid(["b", None, "a"], 2, 2, 3), ["a", "b", None])
        self.assert_clips(relaid(["a", "b", None], 0, 2, 3), ["a", "b", None])

    def test_a_wheel_just_as_wide_as_there_are_notes(self):
        self.assert_clips(relaid(["b", None, None, None, "a"], 4, 2, 2), ["a", "b"])
        self.assert_clips(relaid([None, "a", None], 1, 1, 1), ["a"])

    def test_no_note(self):
        for first in range(7):
            for size in (1, 3, 7, 15):
                self.assert_clips(relaid([None] * 7, first, 0, size), [None] * size)

    def test_one_clip(self):
        self.assert_clips(relaid(["a"], 0, 1, 1), ["a"])
        self.assert_clips(relaid(["a"], 0, 1, 3), ["a", None, None])
        self.assert_clips(relaid([None], 0, 0, 1), [None])
        self.assert_clips(relaid([None], 0, 0, 2), [None, None])

    def test_every_small_wheel(self):
        for old in range(1, 9):
            for first in range(old):
                for held in range(old + 1):
                    notes = [f"note {k}" for k in range(held)]
                    clips = hung(old, first, notes)
                    for size in range(max(held, 1), 2 * old + 2):
                        with self.subTest(old=old, first=first, held=held, size=size):
                            expected = notes + [None] * (size - held)
                            self.assert_clips(relaid(clips, first, held, size), expected)
                            self.assertEqual(clips, hung(old, first, notes))

    def test_a_great_wheel(self):
        notes = [f"note {k}" for k in range(1023)]
        clips = hung(1023, 600, notes)
        self.assert_clips(relaid(clips, 600, 1023, 2047), notes + [None] * 1024)

    def test_the_empty_text_is_a_note(self):
        self.assert_clips(relaid(["", None, ""], 2, 2, 4), ["", "", None, None])
        self.assert_clips(relaid(["", "b", ""], 0, 3, 3), ["", "b", ""])

    def test_equal_notes_are_kept(self):
        self.assert_clips(relaid(["b", "a", "a"], 1, 3, 7), ["a", "a", "b", None, None, None, None])
        self.assert_clips(relaid(["a", "a", "a"], 2, 3, 3), ["a", "a", "a"])

    def test_what_is_handed_in_stays(self):
        clips = ["b", None, "a"]
        for size in (2, 3, 7):
            relaid(clips, 2, 2, size)
            self.assertEqual(clips, ["b", None, "a"])

    def test_the_answer_is_a_list_of_its_own(self):
        for held, clips in ((3, ["a", "b", "c"]), (1, ["a", None, None]), (0, [None] * 3)):
            kept = list(clips)
            answer = relaid(clips, 0, held, 3)
            self.assertIsNot(answer, clips)
            answer[0] = "another"
            self.assertEqual(clips, kept)

    def test_its_arguments(self):
        self.assertEqual(list(inspect.signature(relaid).parameters), ["clips", "first", "held", "size"])
        self.assert_clips(relaid(size=4, held=2, first=2, clips=["b", None, "a"]), ["a", "b", None, None])


if __name__ == "__main__":
    unittest.main()
