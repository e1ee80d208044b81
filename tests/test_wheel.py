"""Points 1 to 7: the wheel, what is put on it and what is taken off."""

import inspect
import unittest

from orderwheel.errors import NoNote, WheelError
from orderwheel.wheel import Wheel


def names(start, stop):
    return [f"note {k}" for k in range(start, stop)]


def wheel_with(notes):
    wheel = Wheel()
    for note in notes:
        wheel.put(note)
    return wheel


def take_many(wheel, many):
    return [wheel.take_off() for k in range(many)]


class WheelTest(unittest.TestCase):
    def assert_wheel(self, wheel, clips, first, held):
        self.assertIs(type(wheel.clips), list)
        self.assertIs(type(wheel.first), int)
        self.assertIs(type(wheel.held), int)
        self.assertEqual((wheel.clips, wheel.first, wheel.held), (clips, first, held))


class Beginning(WheelTest):
    def test_three_clips_without_a_note(self):
        self.assert_wheel(Wheel(), [None, None, None], 0, 0)

    def test_its_arguments(self):
        self.assertEqual(list(inspect.signature(Wheel).parameters), [])
        self.assertEqual(list(inspect.signature(Wheel().put).parameters), ["note"])
        self.assertEqual(list(inspect.signature(Wheel().take_off).parameters), [])
        self.assertEqual(Wheel().put(note="a"), 0)

    def test_two_wheels_side_by_side(self):
        one = Wheel()
        other = Wheel()
        one.put("a")
        self.assert_wheel(other, [None, None, None], 0, 0)
        other.put("b")
        other.put("c")
        self.assert_wheel(one, ["a", None, None], 0, 1)
        self.assertEqual(other.take_off(), "b")
        self.assertEqual(one.take_off(), "a")
        self.assert_wheel(one, [None, None, None], 1, 0)
        self.assert_wheel(other, [None, "c", None], 1, 1)

    def test_two_wheels_of_several_sizes(self):
        one = wheel_with(names(0, 8))
        other = Wheel()
        self.assert_wheel(other, [None, None, None], 0, 0)
        other.put("a")
        self.assert_wheel(one, names(0, 8) + [None] * 7, 0, 8)
        self.assert_wheel(other, ["a", None, None], 0, 1)


class Put(WheelTest):
    def test_the_clip_is_answered(self):
        wheel = Wheel()
        for expected in range(40):
            clip = wheel.put(f"note {expected}")
            self.assertIs(type(clip), int)
            self.assertEqual(clip, expected)

    def test_each_clip_up_to_a_full_wheel(self):
        wheel = Wheel()
        wheel.put("a")
        self.assert_wheel(wheel, ["a", None, None], 0, 1)
        wheel.put("b")
        self.assert_wheel(wheel, ["a", "b", None], 0, 2)
        wheel.put("c")
        self.assert_wheel(wheel, ["a", "b", "c"], 0, 3)

    def test_round_the_end(self):
        wheel = wheel_with(["a", "b", "c"])
        take_many(wheel, 2)
        self.assertEqual(wheel.put("d"), 0)
        self.assertEqual(wheel.put("e"), 1)
        self.assert_wheel(wheel, ["d", "e", "c"], 2, 3)

    def test_on_a_full_wheel(self):
        wheel = wheel_with(["a", "b", "c"])
        self.assertEqual(wheel.put("d"), 3)
        self.assert_wheel(wheel, ["a", "b", "c", "d", None, None, None], 0, 4)

    def test_on_a_full_wheel_that_goes_on_round_the_end(self):
        wheel = wheel_with(["a", "b", "c"])
        take_many(wheel, 2)
        wheel.put("d")
        wheel.put("e")
        self.assertEqual(wheel.put("f"), 3)
        self.assert_wheel(wheel, ["c", "d", "e", "f", None, None, None], 0, 4)

    def test_on_each_full_wheel(self):
        for size in (3, 7, 15, 31, 63, 127):
            with self.subTest(size=size):
                wheel = wheel_with(names(0, size))
                self.assert_wheel(wheel, names(0, size), 0, size)
                self.assertEqual(wheel.put("one more"), size)
                self.assert_wheel(wheel, names(0, size) + ["one more"] + [None] * size, 0, size + 1)

    def test_the_empty_text(self):
        wheel = Wheel()
        self.assertEqual([wheel.put("") for k in range(4)], [0, 1, 2, 3])
        self.assert_wheel(wheel, ["", "", "", "", None, None, None], 0, 4)
        self.assertEqual(wheel.take_off(), "")
        self.assert_wheel(wheel, [None, "", "", "", None, None, None], 1, 3)

    def test_equal_notes(self):
        wheel = Wheel()
        self.assertEqual([wheel.put("soup") for k in range(3)], [0, 1, 2])
        self.assert_wheel(wheel, ["soup", "soup", "soup"], 0, 3)
        self.assertEqual(wheel.take_off(), "soup")
        self.assert_wheel(wheel, [None, "soup", "soup"], 1, 2)


class TakeOff(WheelTest):
    def test_the_oldest_note(self):
        wheel = wheel_with(["a", "b", "c"])
        self.assertEqual(wheel.take_off(), "a")
        self.assert_wheel(wheel, [None, "b", "c"], 1, 2)
        self.assertEqual(wheel.take_off(), "b")
        self.assert_wheel(wheel, [None, None, "c"], 2, 1)

    def test_the_first_clip_goes_on_round_the_end(self):
        wheel = wheel_with(["a", "b", "c"])
        take_many(wheel, 2)
        wheel.put("d")
        self.assertEqual(wheel.take_off(), "c")
        self.assert_wheel(wheel, ["d", None, None], 0, 1)

    def test_the_first_clip_goes_on_where_no_note_is_left(self):
        wheel = Wheel()
        for turn, first in enumerate((1, 2, 0, 1, 2, 0, 1)):
            self.assertEqual(wheel.put(f"note {turn}"), turn % 3)
            self.assertEqual(wheel.take_off(), f"note {turn}")
            self.assert_wheel(wheel, [None, None, None], first, 0)

    def test_the_order_across_changes(self):
        wheel = Wheel()
        came = []
        taken = []
        for many_put, many_taken in ((5, 2), (20, 3), (40, 58), (30, 10), (90, 100), (3, 15)):
            notes = names(len(came), len(came) + many_put)
            came += notes
            for note in notes:
                wheel.put(note)
            taken += take_many(wheel, many_taken)
            self.assertEqual(taken, came[:len(taken)])
        self.assertEqual(taken, came)
        self.assertEqual(wheel.held, 0)

    def test_the_order_of_empty_and_equal_notes(self):
        notes = ["", "a", "", "a", "a", "", "b", "", "", "a", "b"]
        wheel = wheel_with(notes)
        self.assertEqual(take_many(wheel, len(notes)), notes)


class Narrowing(WheelTest):
    def test_seven_clips_at_both_sides_of_the_edge(self):
        wheel = wheel_with(["a", "b", "c", "d"])
        self.assertEqual(take_many(wheel, 2), ["a", "b"])
        self.assert_wheel(wheel, [None, None, "c", "d", None, None, None], 2, 2)
        self.assertEqual(wheel.take_off(), "c")
        self.assert_wheel(wheel, ["d", None, None], 0, 1)

    def test_fifteen_clips_at_both_sides_of_the_edge(self):
        wheel = wheel_with(names(0, 8))
        take_many(wheel, 4)
        self.assert_wheel(wheel, [None] * 4 + names(4, 8) + [None] * 7, 4, 4)
        take_many(wheel, 1)
        self.assert_wheel(wheel, names(5, 8) + [None] * 4, 0, 3)

    def test_each_wheel_at_both_sides_of_the_edge(self):
        for size in (7, 15, 31, 63, 127):
            with self.subTest(size=size):
                kept = (size + 1) // 4
                wheel = wheel_with(names(0, size))
                take_many(wheel, size - kept)
                self.assert_wheel(wheel, [None] * (size - kept) + names(size - kept, size), size - kept, kept)
                self.assertEqual(wheel.take_off(), f"note {size - kept}")
                left = names(size - kept + 1, size)
                self.assert_wheel(wheel, left + [None] * ((size - 1) // 2 - len(left)), 0, kept - 1)

    def test_notes_that_go_on_round_the_end(self):
        wheel = wheel_with(names(0, 7))
        take_many(wheel, 5)
        for note in names(7, 10):
            wheel.put(note)
        self.assert_wheel(wheel, names(7, 10) + [None, None] + names(5, 7), 5, 5)
        take_many(wheel, 3)
        self.assert_wheel(wheel, [None, "note 8", "note 9", None, None, None, None], 1, 2)
        self.assertEqual(wheel.take_off(), "note 8")
        self.assert_wheel(wheel, ["note 9", None, None], 0, 1)

    def test_notes_round_the_end_at_the_change(self):
        wheel = wheel_with(names(0, 15))
        take_many(wheel, 11)
        for note in names(15, 17):
            wheel.put(note)
        self.assertEqual(take_many(wheel, 2), names(11, 13))
        self.assert_wheel(wheel, names(15, 17) + [None] * 11 + names(13, 15), 13, 4)
        self.assertEqual(wheel.take_off(), "note 13")
        self.assert_wheel(wheel, names(14, 17) + [None] * 4, 0, 3)

    def test_once_for_each_taking(self):
        # No day leads here: a wheel this empty shows that one taking is one step.
        wheel = Wheel()
        wheel.clips = [None] * 30 + ["a"]
        wheel.first = 30
        wheel.held = 1
        self.assertEqual(wheel.take_off(), "a")
        self.assert_wheel(wheel, [None] * 15, 0, 0)

    def test_from_wheel_to_wheel_down_to_three_clips(self):
        wheel = wheel_with(names(0, 32))
        sizes = []
        for k in range(32):
            self.assertEqual(wheel.take_off(), f"note {k}")
            sizes.append(len(wheel.clips))
        self.assertEqual(sizes, [63] * 16 + [31] * 8 + [15] * 4 + [7] * 2 + [3] * 2)

    def test_never_below_three_clips(self):
        wheel = wheel_with(["a", "b", "c", "d"])
        take_many(wheel, 4)
        self.assert_wheel(wheel, [None, None, None], 1, 0)
        wheel.put("e")
        wheel.take_off()
        self.assert_wheel(wheel, [None, None, None], 2, 0)

    def test_a_put_does_not_make_a_wheel_narrower(self):
        # Only a taking does: on this wheel, too, which no day leads to.
        wheel = Wheel()
        wheel.clips = [None] * 15
        self.assertEqual(wheel.put("a"), 0)
        self.assert_wheel(wheel, ["a"] + [None] * 14, 0, 1)


class Refusal(WheelTest):
    def assert_refused(self, wheel):
        kept = (list(wheel.clips), wheel.first, wheel.held)
        for again in range(3):
            with self.assertRaises(NoNote):
                wheel.take_off()
            self.assert_wheel(wheel, *kept)

    def test_at_the_beginning(self):
        self.assert_refused(Wheel())

    def test_behind_the_last_note(self):
        for many in (1, 2, 3, 4, 8, 20):
            with self.subTest(many=many):
                wheel = wheel_with(names(0, many))
                take_many(wheel, many)
                self.assert_refused(wheel)

    def test_it_is_a_wheel_error(self):
        with self.assertRaises(WheelError):
            Wheel().take_off()

    def test_it_goes_on_behind_a_refusal(self):
        wheel = wheel_with(["a"])
        wheel.take_off()
        self.assert_refused(wheel)
        self.assertEqual(wheel.put("b"), 1)
        self.assert_wheel(wheel, [None, "b", None], 1, 1)
        self.assertEqual(wheel.take_off(), "b")

    def test_the_empty_text_is_not_refused(self):
        wheel = wheel_with([""])
        self.assertEqual(wheel.take_off(), "")
        self.assert_refused(wheel)


if __name__ == "__main__":
    unittest.main()
