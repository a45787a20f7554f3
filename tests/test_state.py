"""The call state: lock values and swells row by row, and its refusals."""

import random
import unittest

from tests.helper import BAR, STRIP, ask, bar, bar_text, random_case, read, slow_states, state, stated, strip_text


def states(bar_text, strip_text, rows):
    """What state answers behind each of the rows: both lock values, both swells."""
    given = ask(bar(bar_text), read(strip_text), *[state(0, row) for row in rows])
    assert given[0][0] == 0 and given[1] == [0], given[:2]
    return [answer[2:-1] if answer[0] == 0 else answer for answer in given[2:]]


class StateAnswers(unittest.TestCase):
    def test_the_example_behind_each_row(self):
        self.assertEqual(
            states(BAR, STRIP, range(7)),
            [[0, 1, 0, 0], [0, 1, 0, 0], [0, 2, 0, 0], [0, 2, 0, 8], [0, 2, 0, 16], [0, 2, 0, 16], [0, 2, 0, 16]],
        )

    def test_a_lock_stays_when_it_sounds_no_longer(self):
        text = bar_text(0, (0, 0, 0), "lock 0 0", "lock 1 0", "lock 2 0", "lock 0 1", "lock 1 1", "lock 2 1")
        strip = strip_text(6, [[0], [1], [], [2], [4], [3, 5]])
        self.assertEqual([line[:2] for line in states(text, strip, range(6))],
                         [[1, 0], [3, 0], [3, 0], [7, 0], [7, 2], [7, 7]])

    def test_cancel_comes_before_the_locks_of_its_row(self):
        text = bar_text(0, (0, 0, 0), "lock 0 0", "lock 1 0", "cancel 0", "lock 2 1", "cancel 1")
        strip = strip_text(5, [[0, 3], [1, 2], [4], [2, 3]])
        self.assertEqual([line[:2] for line in states(text, strip, range(4))], [[1, 4], [2, 4], [2, 0], [0, 4]])

    def test_cancel_goes_on_sounding_by_the_tail(self):
        text = bar_text(2, (0, 0, 0), "lock 0 0", "cancel 0")
        strip = strip_text(2, [[1], [0], [], [], [], [1]])
        self.assertEqual([line[0] for line in states(text, strip, range(9))], [0, 1, 1, 1, 1, 0, 0, 0, 0])

    def test_a_swell_is_at_most_m_and_at_least_0(self):
        text = bar_text(0, (10, 4, 3), "up 0", "down 0", "up 1", "down 1")
        strip = strip_text(4, [[0, 3], [0], [0, 2], [1], [1, 2], [1], [1], [2], [3]])
        self.assertEqual([line[2:] for line in states(text, strip, range(9))],
                         [[4, 0], [8, 0], [10, 4], [7, 4], [4, 8], [1, 8], [0, 8], [0, 10], [0, 7]])

    def test_up_and_down_together_leave_the_swell(self):
        text = bar_text(1, (1000, 7, 5), "up 1", "down 1")
        strip = strip_text(2, [[0], [1], [0, 1], []])
        self.assertEqual([line[3] for line in states(text, strip, range(5))], [7, 7, 7, 7, 7])

    def test_a_swell_changes_at_each_row_that_sounds(self):
        text = bar_text(3, (1023, 1, 1), "up 0")
        self.assertEqual([line[2] for line in states(text, strip_text(1, [[0]]), range(5))], [1, 2, 3, 4, 4])

    def test_the_lowest_and_the_highest_numbers_of_swell(self):
        strip = strip_text(2, [[0]] * 3 + [[1]])
        expected = {
            (0, 1023, 1): [0, 0, 0, 0],
            (1023, 1023, 1023): [1023, 1023, 1023, 0],
            (1023, 0, 0): [0, 0, 0, 0],
        }
        for swell, swells in expected.items():
            with self.subTest(swell=swell):
                text = bar_text(0, swell, "up 0", "down 0")
                self.assertEqual([line[2] for line in states(text, strip, range(4))], swells)

    def test_the_highest_track(self):
        text = "bar 128 0\ntail 0\nforce 0 0 0\nswell 9 1 1\n126 lock 2 1\n127 up 0\n"
        self.assertEqual(states(text, "strip 128\n1 125\n1 126\n1 127\n", range(3)),
                         [[0, 0, 0, 0], [0, 4, 0, 0], [0, 4, 1, 0]])

    def test_kinds_that_move_neither_locks_nor_swells(self):
        text = bar_text(0, (100, 8, 4), "key 0", "key 127", "loud", "soft", "accent 0", "accent 1", "end")
        self.assertEqual(states(text, strip_text(7, [list(range(7))]), range(2)), [[0, 0, 0, 0]] * 2)

    def test_a_bar_and_a_strip_with_nothing(self):
        self.assertEqual(states(bar_text(0, (0, 0, 0)), "strip 1\n", range(2)), [[0, 0, 0, 0], [-1]])
        self.assertEqual(states(bar_text(15, (9, 1, 1), "up 0"), "strip 1\n", (0, 15, 16)),
                         [[0, 0, 0, 0], [0, 0, 0, 0], [-1]])

    def test_rows_behind_the_last_one_with_a_tail_of_0_and_of_15(self):
        strip = strip_text(1, [[0], [0]])
        self.assertEqual(states(bar_text(0, (100, 1, 1), "up 1"), strip, range(4)),
                         [[0, 0, 0, 1], [0, 0, 0, 2], [0, 0, 0, 2], [-1]])
        expected = [[0, 0, 0, 1 + row] for row in range(17)] + [[0, 0, 0, 17], [-1]]
        self.assertEqual(states(bar_text(15, (100, 1, 1), "up 1"), strip, range(19)), expected)

    def test_a_strip_of_256_rows(self):
        text = bar_text(15, (1023, 1, 1), "up 0", "lock 2 0")
        self.assertEqual(states(text, "strip 2\n255 0\n1 0 1\n", (0, 254, 255, 270, 271, 272)),
                         [[0, 0, 1, 0], [0, 0, 255, 0], [4, 0, 256, 0], [4, 0, 271, 0], [4, 0, 271, 0], [-1]])

    def test_bars_and_strips_of_every_shape(self):
        source = random.Random(1)
        for attempt in range(60):
            case = random_case(source)
            asked = range(len(case["rows"]) + case["tail"] + 1)
            expected = [slow_states(case, last) for last in asked]
            with self.subTest(attempt=attempt):
                self.assertEqual(states(case["bar"], case["strip"], asked), expected)


class StateRefused(unittest.TestCase):
    def test_before_a_bar_stands_first_of_all(self):
        given = ask(state(0, 0), read(STRIP), state(0, 0), state(0, 4294967295), state(4294967295, 4294967295))
        self.assertEqual(given, [[-8], [0], [-8], [-8], [-8]])

    def test_a_strip_that_is_not_there(self):
        given = ask(bar(BAR), state(0, 0), state(0, 4294967295), read(STRIP), state(0, 0), state(1, 0),
                    state(4294967295, 0), state(1, 4294967295))
        self.assertEqual(given[1:], [[-4], [-4], [0], stated(0, 1, 0, 0), [-4], [-4], [-4]])

    def test_another_width_comes_before_the_row(self):
        given = ask(bar(BAR), read("strip 7\n"), read("strip 9\n"), state(0, 0), state(1, 0), state(0, 4294967295),
                    state(2, 0))
        self.assertEqual(given[3:], [[-3], [-3], [-3], [-4]])

    def test_the_width_is_that_of_the_bar_that_stands(self):
        wide = BAR.replace("bar 8", "bar 9")
        given = ask(bar(BAR), read(STRIP), state(0, 4), bar(wide), state(0, 4), bar(BAR), state(0, 4))
        self.assertEqual(given[2::2], [stated(0, 2, 0, 16), [-3], stated(0, 2, 0, 16)])

    def test_a_row_above_the_rows_and_the_tail_together(self):
        given = ask(bar(BAR), read(STRIP), state(0, 6), state(0, 7), state(0, 4294967295))
        self.assertEqual(given[2:], [stated(0, 2, 0, 16), [-1], [-1]])

    def test_a_refused_state_changes_nothing(self):
        refused = [state(0, 7), state(2, 0), state(1, 0)]
        given = ask(bar(BAR), read(STRIP), read("strip 9\n"), *refused, state(0, 4), read(STRIP), state(2, 4))
        self.assertEqual(given[3:], [[-1], [-4], [-3], stated(0, 2, 0, 16), [2], stated(0, 2, 0, 16)])

    def test_a_state_that_is_answered_changes_nothing(self):
        given = ask(bar(BAR), read(STRIP), state(0, 4), state(0, 0), state(0, 6), state(0, 4), state(0, 2))
        self.assertEqual(given[2:], [stated(0, 2, 0, 16), stated(0, 1, 0, 0), stated(0, 2, 0, 16),
                                     stated(0, 2, 0, 16), stated(0, 2, 0, 0)])
