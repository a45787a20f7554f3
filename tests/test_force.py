"""The call force: what makes up a side's force at a row, and its refusals."""

import random
import unittest

from tests.helper import (
    BAR, BAR_ANSWER, STRIP, ask, bar, bar_text, force, random_case, read, slow_force, state, stated, strip_text,
)

NO_SWELL = (0, 0, 0)
HIGHEST = 4294967295


def forces(bar_lines, strip_lines, rows, side):
    """What force answers for a side at each of the rows."""
    given = ask(bar(bar_lines), read(strip_lines), *[force(0, row, side) for row in rows])
    assert given[0][0] == 0 and given[1] == [0], given[:2]
    assert all(len(answer) == 1 for answer in given[2:]), given
    return [answer[0] for answer in given[2:]]


def one_row(numbers, *meanings, swell=NO_SWELL):
    """The force of side 0 at the one row of a strip in which each of the meanings has a hole."""
    strip = strip_text(max(1, len(meanings)), [list(range(len(meanings)))])
    return forces(bar_text(0, swell, *meanings, force=numbers), strip, [0], 0)[0]


class ForceAnswers(unittest.TestCase):
    def test_the_example_at_each_row(self):
        self.assertEqual(forces(BAR, STRIP, range(7), 0), [40] * 7)
        self.assertEqual(forces(BAR, STRIP, range(7), 1), [50, 50, 60, 61, 62, 62, 62])

    def test_the_example_with_accent_and_soft(self):
        strip = "strip 8\n1 6\n1\n1 3 6 7\n"
        self.assertEqual(forces(BAR, strip, range(5), 1), [60, 60, 60, 60, 60])
        self.assertEqual(forces(BAR, strip, range(5), 0), [40, 40, 30, 30, 40])

    def test_the_number_stands_alone(self):
        self.assertEqual(ask(bar(BAR), read(STRIP), force(0, 0, 1))[2], [50])
        self.assertEqual(ask(bar(bar_text(0, NO_SWELL, force=(0, 0, 0))), read("strip 1\n"), force(0, 0, 0))[2], [0])

    def test_the_base_alone(self):
        for base in (0, 1, 40, 126, 127):
            self.assertEqual(one_row((base, 99, 99)), base)

    def test_the_step_goes_with_the_lock_value(self):
        self.assertEqual(one_row((3, 10, 0), "lock 0 0"), 13)
        self.assertEqual(one_row((3, 10, 0), "lock 1 0"), 23)
        self.assertEqual(one_row((3, 10, 0), "lock 2 0"), 43)
        self.assertEqual(one_row((3, 10, 0), "lock 0 0", "lock 1 0", "lock 2 0"), 73)
        self.assertEqual(one_row((3, 10, 0), "lock 0 1", "lock 1 1", "lock 2 1"), 3)
        self.assertEqual(one_row((3, 0, 0), "lock 2 0"), 3)

    def test_an_eighth_of_the_swell_rounded_down(self):
        for swell, more in {0: 0, 7: 0, 8: 1, 15: 1, 16: 2, 1016: 127, 1023: 127}.items():
            with self.subTest(swell=swell):
                self.assertEqual(one_row((0, 0, 0), "up 0", swell=(1023, swell, 0)), more)
        self.assertEqual(one_row((5, 0, 0), "up 1", swell=(1023, 800, 0)), 5)

    def test_the_swell_is_rounded_by_itself(self):
        self.assertEqual(one_row((1, 1, 1), "lock 0 0", "accent 0", "up 0", swell=(100, 15, 0)), 4)

    def test_the_locks_and_the_swell_are_those_of_the_row_itself(self):
        text = bar_text(0, (100, 16, 100), "lock 1 0", "cancel 0", "up 0", "down 0")
        strip = strip_text(4, [[], [0], [], [1, 2], [3], [0, 1]])
        self.assertEqual(forces(text, strip, range(7), 0), [40, 60, 60, 42, 40, 60, 60])

    def test_the_accent_counts_as_long_as_it_sounds(self):
        text = bar_text(2, NO_SWELL, "accent 0", "accent 1")
        strip = strip_text(2, [[], [0], [], [1], [], []])
        self.assertEqual(forces(text, strip, range(9), 0), [40, 60, 60, 60] + [40] * 5)
        self.assertEqual(forces(text, strip, range(9), 1), [40] * 3 + [60, 60, 60] + [40] * 3)

    def test_a_force_of_127_and_above_it(self):
        self.assertEqual(one_row((126, 0, 1), "accent 0"), 127)
        self.assertEqual(one_row((126, 0, 2), "accent 0"), 127)
        self.assertEqual(one_row((127, 127, 127), "accent 0", "lock 2 0"), 127)
        self.assertEqual(one_row((120, 7, 0), "lock 0 0"), 127)
        self.assertEqual(one_row((121, 7, 0), "lock 0 0"), 127)
        self.assertEqual(one_row((120, 6, 0), "lock 0 0"), 126)
        self.assertEqual(one_row((127, 0, 0), "up 0", swell=(1023, 1023, 0)), 127)
        self.assertEqual(one_row((0, 0, 0), "up 0", swell=(1023, 1023, 0)), 127)

    def test_soft_takes_a_fourth_rounded_down(self):
        for base, left in {0: 0, 1: 1, 3: 3, 4: 3, 7: 6, 8: 6, 100: 75, 126: 95, 127: 96}.items():
            with self.subTest(base=base):
                self.assertEqual(one_row((base, 0, 0), "soft"), left)

    def test_soft_comes_behind_the_accent_and_the_127(self):
        self.assertEqual(one_row((40, 0, 20), "soft", "accent 0"), 45)
        self.assertEqual(one_row((41, 0, 2), "soft", "accent 0"), 33)
        self.assertEqual(one_row((127, 0, 127), "soft", "accent 0"), 96)
        self.assertEqual(one_row((127, 127, 127), "soft", "accent 0", "lock 0 0"), 96)
        self.assertEqual(one_row((100, 0, 60), "soft", "accent 0"), 96)

    def test_soft_is_both_sides_and_goes_on_by_the_tail(self):
        text = bar_text(1, NO_SWELL, "soft")
        strip = strip_text(1, [[], [0], [], []])
        for side in (0, 1):
            self.assertEqual(forces(text, strip, range(6), side), [40, 30, 30, 40, 40, 40])

    def test_a_bar_with_every_kind_of_meaning(self):
        text = bar_text(0, (80, 24, 9), "key 1", "loud", "soft", "lock 2 1", "cancel 1", "up 1", "down 1", "accent 1",
                        "end", "key 99", force=(10, 5, 7))
        rows = [[0], [1], [3], [5, 9], [5], [5], [5], [6], [7], [2], [2, 7], [5, 6], [4], [8], list(range(10))]
        self.assertEqual(forces(text, strip_text(10, rows), range(16), 1),
                         [10, 10, 30, 33, 36, 39, 40, 38, 45, 29, 34, 38, 18, 18, 34, 38])
        self.assertEqual(forces(text, strip_text(10, rows), range(16), 0),
                         [10, 10, 10, 10, 10, 10, 10, 10, 10, 8, 8, 10, 10, 10, 8, 10])

    def test_kinds_that_move_no_force(self):
        self.assertEqual(one_row((40, 10, 20), "key 0", "key 127", "loud", "end", "accent 1", "lock 1 1"), 40)

    def test_rows_behind_the_last_one_with_a_tail_of_0_and_of_15(self):
        strip = strip_text(2, [[], [0, 1]])
        self.assertEqual(forces(bar_text(0, (1023, 8, 0), "accent 0", "up 0"), strip, range(4), 0), [40, 61, 41, -1])
        expected = [40] + [61 + row for row in range(16)] + [56, -1]
        self.assertEqual(forces(bar_text(15, (1023, 8, 0), "accent 0", "up 0"), strip, range(19), 0), expected)

    def test_a_strip_without_rows(self):
        for tail in (0, 15):
            for side in (0, 1):
                self.assertEqual(forces(bar_text(tail, NO_SWELL, "soft"), "strip 1\n", (0, tail, tail + 1), side),
                                 [40, 40, -1])

    def test_the_highest_row_there_is(self):
        text = bar_text(15, (1023, 3, 0), "up 1", force=(1, 0, 0))
        self.assertEqual(forces(text, "strip 1\n256 0\n", (0, 255, 270, 271, 272), 1), [1, 97, 102, 102, -1])

    def test_the_split_moves_no_force(self):
        for split in (0, 128):
            text = bar_text(0, NO_SWELL, "lock 0 0", "lock 1 1", split=split)
            self.assertEqual(forces(text, "strip 2\n1 0 1\n", [0], 0), [50])
            self.assertEqual(forces(text, "strip 2\n1 0 1\n", [0], 1), [60])

    def test_bars_and_strips_of_every_shape(self):
        source = random.Random(2)
        for attempt in range(60):
            case = random_case(source)
            asked = range(len(case["rows"]) + case["tail"] + 1)
            for side in (0, 1):
                expected = [slow_force(case, row, side) for row in asked]
                with self.subTest(attempt=attempt, side=side):
                    self.assertEqual(forces(case["bar"], case["strip"], asked, side), expected)


class ForceRefused(unittest.TestCase):
    def test_before_a_bar_stands_first_of_all(self):
        given = ask(force(0, 0, 0), read(STRIP), force(0, 0, 0), force(1, 0, 0), force(0, HIGHEST, 0),
                    force(0, 0, 2), force(HIGHEST, HIGHEST, HIGHEST), bar(BAR), force(0, 0, 1))
        self.assertEqual(given, [[-8], [0], [-8], [-8], [-8], [-8], [-8], BAR_ANSWER, [50]])

    def test_a_strip_that_is_not_there_comes_next(self):
        given = ask(bar(BAR), force(0, 0, 0), read(STRIP), force(0, 0, 1), force(1, 0, 0), force(1, HIGHEST, 0),
                    force(1, 0, 2), force(HIGHEST, 0, 0), force(0, 0, 1))
        self.assertEqual(given[1:], [[-4], [0], [50], [-4], [-4], [-4], [-4], [50]])

    def test_another_width_comes_before_the_row_and_the_side(self):
        given = ask(bar(BAR), read("strip 7\n"), read("strip 9\n"), read(STRIP), force(0, 0, 0), force(1, 0, 0),
                    force(0, HIGHEST, 0), force(1, 0, 2), force(3, 0, 0), force(2, 0, 1))
        self.assertEqual(given[4:], [[-3], [-3], [-3], [-3], [-4], [50]])

    def test_the_width_is_that_of_the_bar_that_stands(self):
        wide = BAR.replace("bar 8", "bar 9")
        given = ask(bar(BAR), read(STRIP), force(0, 4, 1), bar(wide), force(0, 4, 1), bar(BAR), force(0, 4, 1))
        self.assertEqual(given[2::2], [[62], [-3], [62]])

    def test_a_row_above_the_rows_and_the_tail_together(self):
        given = ask(bar(BAR), read(STRIP), force(0, 6, 1), force(0, 7, 1), force(0, HIGHEST, 0), force(0, 6, 1))
        self.assertEqual(given[2:], [[62], [-1], [-1], [62]])

    def test_a_side_above_1(self):
        given = ask(bar(BAR), read(STRIP), force(0, 0, 0), force(0, 0, 1), force(0, 0, 2), force(0, 0, HIGHEST),
                    force(0, 7, 2), force(0, 0, 1))
        self.assertEqual(given[2:], [[40], [50], [-1], [-1], [-1], [50]])

    def test_a_refused_force_changes_nothing(self):
        refused = [force(2, 0, 0), force(1, 0, 0), force(0, 7, 0), force(0, 0, 2)]
        given = ask(bar(BAR), read(STRIP), read("strip 9\n"), *refused, state(0, 4), force(0, 4, 1), read(STRIP),
                    state(2, 4))
        self.assertEqual(given[3:], [[-4], [-3], [-1], [-1], stated(0, 2, 0, 16), [62], [2], stated(0, 2, 0, 16)])

    def test_a_force_that_is_answered_changes_nothing(self):
        given = ask(bar(BAR), read(STRIP), force(0, 4, 1), force(0, 0, 1), force(0, 6, 0), force(0, 4, 1), state(0, 2))
        self.assertEqual(given[2:], [[62], [50], [40], [62], stated(0, 2, 0, 0)])
