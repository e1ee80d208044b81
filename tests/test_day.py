"""Points 8 to 10: a day's deeds, their answers, the states, and what holds over long days."""

import copy
import inspect
import unittest

from orderwheel.day import answers, behind, states

TAKE = ("take",)


def puts(start, stop):
    return [("put", f"note {k}") for k in range(start, stop)]


def day_by_turns(turns):
    """The deeds of a day that puts on and takes off, by turns, as many as told."""
    deeds = []
    came = 0
    for many_put, many_taken in turns:
        deeds += puts(came, came + many_put) + [TAKE] * many_taken
        came += many_put
    return deeds


def told_day(deeds):
    """Answers, states and the last clips by the document's words, with a plain list of notes."""
    size, first, moves, line = 3, 0, 0, []
    said, seen = [], []
    for deed in deeds:
        if deed[0] == "put":
            if len(line) == size:
                size, first, moves = size + size + 1, 0, moves + len(line)
            clip = first + len(line)
            said.append(clip if clip < size else clip - size)
            line.append(deed[1])
        elif not line:
            said.append(None)
        else:
            said.append(line.pop(0))
            first = 0 if first == size - 1 else first + 1
            if size > 3 and 4 * len(line) < size:
                size, first, moves = (size - 1) // 2, 0, moves + len(line)
        seen.append((size, first, len(line), moves))
    clips = [None] * size
    for count, note in enumerate(line):
        clips[first + count if first + count < size else first + count - size] = note
    return said, seen, (clips, first)


# A fixed row of numbers without a pattern that the wheels' sizes share.
def mixed_deeds(seed, many, bent):
    deeds = []
    number = seed
    for k in range(many):
        number = (number * 1103515245 + 12345) % 2 ** 31
        # The bent side changes every so often, so that the wheel swells and shrinks.
        towards_put = bent if (k // 200) % 2 == 0 else 10 - bent
        if (number >> 16) % 10 < towards_put:
            deeds.append(("put", ("", "soup", f"note {k}")[(number >> 8) % 3]))
        else:
            deeds.append(TAKE)
    return deeds


LONG_DAYS = {
    "up and down": day_by_turns([(200, 200), (300, 290), (500, 510)]),
    "down to one": day_by_turns([(64, 63), (70, 70), (130, 130)]),
    "at the widening edges": day_by_turns([(4, 3), (8, 7), (16, 15), (32, 31), (64, 63), (128, 127)]),
    "to and fro at an edge": day_by_turns([(32, 17)] + [(1, 1)] * 50 + [(0, 7)] + [(1, 1)] * 50 + [(600, 610)]),
    "taken beyond the last": day_by_turns([(40, 50), (0, 9), (100, 120), (5, 6), (250, 300)]),
    "two on, one off": day_by_turns([(2, 1)] * 300 + [(1, 2)] * 310),
    "mixed, bent by 7": mixed_deeds(1, 3000, 7),
    "mixed, bent by 8": mixed_deeds(2, 3000, 8),
    "mixed, bent by 9": mixed_deeds(3, 3000, 9),
}


class Answers(unittest.TestCase):
    def assert_answers(self, deeds, expected):
        said = answers(deeds)
        self.assertIs(type(said), list)
        self.assertEqual(said, expected)
        self.assertEqual([type(answer) for answer in said], [type(answer) for answer in expected])

    def test_a_day_without_a_deed(self):
        self.assert_answers([], [])

    def test_puts_and_takes(self):
        self.assert_answers([("put", "a"), ("put", "b"), TAKE, ("put", "c"), TAKE, TAKE], [0, 1, "a", 2, "b", "c"])

    def test_a_refused_deed(self):
        self.assert_answers([TAKE], [None])
        self.assert_answers([TAKE, TAKE, ("put", "a"), TAKE, TAKE, ("put", "b")], [None, None, 0, "a", None, 1])

    def test_the_empty_text_and_equal_notes(self):
        self.assert_answers([("put", ""), TAKE, TAKE], [0, "", None])
        self.assert_answers([("put", "a"), ("put", "a"), ("put", ""), TAKE, TAKE, TAKE], [0, 1, 2, "a", "a", ""])

    def test_notes_that_are_called_like_deeds(self):
        self.assert_answers([("put", "take"), ("put", "put"), TAKE, TAKE], [0, 1, "take", "put"])

    def test_round_the_end_and_on_a_wider_wheel(self):
        deeds = puts(0, 3) + [TAKE, TAKE] + puts(3, 6) + [TAKE]
        self.assert_answers(deeds, [0, 1, 2, "note 0", "note 1", 0, 1, 3, "note 2"])

    def test_behind_a_change_to_a_narrower_wheel(self):
        deeds = puts(0, 4) + [TAKE, TAKE, TAKE] + puts(4, 5)
        self.assert_answers(deeds, [0, 1, 2, 3, "note 0", "note 1", "note 2", 1])

    def test_its_argument(self):
        self.assertEqual(list(inspect.signature(answers).parameters), ["deeds"])
        self.assertEqual(answers(deeds=[("put", "a")]), [0])


class States(unittest.TestCase):
    def assert_states(self, deeds, expected):
        seen = states(deeds)
        self.assertIs(type(seen), list)
        self.assertEqual(seen, expected)
        for state in seen:
            self.assertIs(type(state), tuple)
            self.assertEqual([type(number) for number in state], [int] * 4)

    def test_a_day_without_a_deed(self):
        self.assert_states([], [])

    def test_puts_and_takes(self):
        deeds = [("put", "a"), ("put", ""), TAKE, ("put", "c"), ("put", "d"), TAKE, TAKE, TAKE]
        expected = [(3, 0, 1, 0), (3, 0, 2, 0), (3, 1, 1, 0), (3, 1, 2, 0),
                    (3, 1, 3, 0), (3, 2, 2, 0), (3, 0, 1, 0), (3, 1, 0, 0)]
        self.assert_states(deeds, expected)

    def test_a_refused_deed_changes_nothing(self):
        deeds = [TAKE, ("put", "a"), TAKE, TAKE, TAKE, ("put", "b")]
        expected = [(3, 0, 0, 0), (3, 0, 1, 0), (3, 1, 0, 0), (3, 1, 0, 0), (3, 1, 0, 0), (3, 1, 1, 0)]
        self.assert_states(deeds, expected)

    def test_a_refused_deed_behind_moves(self):
        deeds = puts(0, 4) + [TAKE] * 6
        expected = [(3, 0, 1, 0), (3, 0, 2, 0), (3, 0, 3, 0), (7, 0, 4, 3),
                    (7, 1, 3, 3), (7, 2, 2, 3), (3, 0, 1, 4), (3, 1, 0, 4), (3, 1, 0, 4), (3, 1, 0, 4)]
        self.assert_states(deeds, expected)

    def test_moves_at_changes_to_a_wider_wheel(self):
        seen = states(puts(0, 64))
        self.assertEqual([seen[k] for k in (2, 3, 6, 7)], [(3, 0, 3, 0), (7, 0, 4, 3), (7, 0, 7, 3), (15, 0, 8, 10)])
        self.assertEqual([seen[k] for k in (15, 31, 63)], [(31, 0, 16, 25), (63, 0, 32, 56), (127, 0, 64, 119)])

    def test_moves_at_changes_to_a_narrower_wheel(self):
        seen = states(puts(0, 16) + [TAKE] * 16)[16:]
        expected = [(31, k, 16 - k, 25) for k in range(1, 9)]
        expected += [(15, 0, 7, 32), (15, 1, 6, 32), (15, 2, 5, 32), (15, 3, 4, 32)]
        expected += [(7, 0, 3, 35), (7, 1, 2, 35), (3, 0, 1, 36), (3, 1, 0, 36)]
        self.assertEqual(seen, expected)

    def test_moves_are_counted_from_the_beginning_on(self):
        deeds = (puts(0, 4) + [TAKE] * 3) * 2
        self.assertEqual([state[3] for state in states(deeds)], [0, 0, 0, 3, 3, 3, 4, 4, 4, 7, 7, 7, 7, 7])

    def test_its_argument(self):
        self.assertEqual(list(inspect.signature(states).parameters), ["deeds"])
        self.assertEqual(states(deeds=[("put", "a")]), [(3, 0, 1, 0)])


class Behind(unittest.TestCase):
    def assert_behind(self, deeds, clips, first):
        left = behind(deeds)
        self.assertIs(type(left), tuple)
        self.assertEqual(left, (clips, first))
        self.assertIs(type(left[0]), list)
        self.assertIs(type(left[1]), int)

    def test_a_day_without_a_deed(self):
        self.assert_behind([], [None, None, None], 0)

    def test_puts_and_takes(self):
        self.assert_behind([("put", "a"), ("put", ""), TAKE], [None, "", None], 1)
        self.assert_behind([("put", "a"), ("put", "a")], ["a", "a", None], 0)

    def test_round_the_end(self):
        self.assert_behind(puts(0, 3) + [TAKE, TAKE] + puts(3, 4), ["note 3", None, "note 2"], 2)

    def test_where_no_note_is_left(self):
        self.assert_behind([("put", "a"), TAKE], [None, None, None], 1)

    def test_a_refused_deed_changes_nothing(self):
        self.assert_behind([TAKE], [None, None, None], 0)
        self.assert_behind([("put", "a"), TAKE, TAKE], [None, None, None], 1)

    def test_wider_and_narrower(self):
        self.assert_behind(puts(0, 4), ["note 0", "note 1", "note 2", "note 3", None, None, None], 0)
        self.assert_behind(puts(0, 4) + [TAKE] * 2, [None, None, "note 2", "note 3", None, None, None], 2)
        self.assert_behind(puts(0, 4) + [TAKE] * 3, ["note 3", None, None], 0)

    def test_its_argument(self):
        self.assertEqual(list(inspect.signature(behind).parameters), ["deeds"])
        self.assertEqual(behind(deeds=[("put", "a")]), (["a", None, None], 0))


class DayAfterDay(unittest.TestCase):
    def test_each_day_begins_as_the_kitchen_does(self):
        deeds = puts(0, 20) + [TAKE] * 3
        for day in (answers, states, behind):
            first_time = copy.deepcopy(day(deeds))
            self.assertEqual(day(deeds), first_time)
            day(puts(0, 9))
            self.assertEqual(day(deeds), first_time)
        self.assertEqual(answers([TAKE, ("put", "a")]), [None, 0])
        self.assertEqual(states([("put", "a")]), [(3, 0, 1, 0)])
        self.assertEqual(behind([]), ([None, None, None], 0))

    def test_what_is_answered_is_kept_by_no_other_day(self):
        clips, first = behind([])
        clips[0] = "another"
        clips.append("one more")
        self.assertEqual(behind([]), ([None, None, None], 0))
        self.assertEqual(states([("put", "a")]), [(3, 0, 1, 0)])

    def test_the_deeds_stay_as_they_were(self):
        deeds = [TAKE] + puts(0, 9) + [TAKE] * 12 + [("put", "")]
        kept = list(deeds)
        for day in (answers, states, behind):
            day(deeds)
            self.assertEqual(deeds, kept)


class LongDays(unittest.TestCase):
    # Not assertEqual: it takes minutes to lay out how two long lists differ.
    def assert_same(self, found, expected):
        for k, (one, other) in enumerate(zip(found, expected)):
            self.assertTrue(one == other, f"at {k}: {one!r}, not {other!r}")
        self.assertEqual(len(found), len(expected))

    def test_as_the_document_tells_them(self):
        for name, deeds in LONG_DAYS.items():
            with self.subTest(day=name):
                said, seen, (clips, first) = told_day(deeds)
                self.assert_same(answers(deeds), said)
                self.assert_same(states(deeds), seen)
                self.assert_same(behind(deeds)[0], clips)
                self.assertEqual(behind(deeds)[1], first)

    def test_notes_come_off_in_the_order_in_which_they_came(self):
        for name, deeds in LONG_DAYS.items():
            with self.subTest(day=name):
                came = [deed[1] for deed in deeds if deed[0] == "put"]
                pairs = zip(deeds, answers(deeds))
                taken = [answer for deed, answer in pairs if deed == TAKE and answer is not None]
                self.assert_same(taken, came[:len(taken)])

    def test_more_than_three_changes_of_each_kind(self):
        for name, deeds in LONG_DAYS.items():
            with self.subTest(day=name):
                sizes = [state[0] for state in states(deeds)]
                steps = list(zip(sizes, sizes[1:]))
                self.assertGreater(len([step for step in steps if step[1] == 2 * step[0] + 1]), 3)
                self.assertGreater(len([step for step in steps if step[0] == 2 * step[1] + 1]), 3)

    def test_a_wheel_is_never_left_nearly_empty(self):
        for name, deeds in LONG_DAYS.items():
            with self.subTest(day=name):
                for size, first, held, moves in states(deeds):
                    self.assertTrue(size == 3 or size > 3 and 4 * held >= size, (size, held))

    def test_moves_are_few_at_each_moment(self):
        for name, deeds in LONG_DAYS.items():
            with self.subTest(day=name):
                allowed = 0
                for deed, answer, state in zip(deeds, answers(deeds), states(deeds)):
                    if deed != TAKE:
                        # The moves of a put come ahead of its note.
                        self.assertLessEqual(state[3], allowed)
                        allowed += 2
                    elif answer is not None:
                        allowed += 1
                    self.assertLessEqual(state[3], allowed)


if __name__ == "__main__":
    unittest.main()
