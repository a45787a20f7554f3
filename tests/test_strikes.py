"""The call strikes: which keys are struck, where and how hard, and its refusals."""

import random
import unittest

from tests.helper import (
    BAR, BAR_ANSWER, STRIP, ask, bar, bar_text, force, random_case, read, slow_strikes, state, stated, strikes,
    strip_text, struck,
)

NO_SWELL = (0, 0, 0)
HIGHEST = 4294967295
EXAMPLE = struck((0, 60, 50), (4, 59, 40))


def strikes_of(bar_lines, strip_lines):
    given = ask(bar(bar_lines), read(strip_lines), strikes(0))
    assert given[0][0] == 0 and given[1] == [0], given[:2]
    return given[2]


class StrikesAnswers(unittest.TestCase):
    def test_the_example(self):
        self.assertEqual(strikes_of(BAR, STRIP), [2, 6, 0, 60, 50, 4, 59, 40, 0])

    def test_no_strike(self):
        self.assertEqual(strikes_of(BAR, "strip 8\n"), [0])
        self.assertEqual(strikes_of(BAR, "strip 8\n256\n"), [0])
        self.assertEqual(strikes_of(BAR, "strip 8\n256 2 3 4 5 6 7\n"), [0])
        self.assertEqual(strikes_of(bar_text(0, NO_SWELL), "strip 1\n1 0\n"), [0])
        self.assertEqual(strikes_of(bar_text(15, NO_SWELL, "key 5"), "strip 1\n"), [0])

    def test_only_keys_are_struck(self):
        meanings = ["loud", "soft", "end"] + ["lock %d %d" % (which, side) for which in range(3) for side in range(2)]
        meanings += ["%s %d" % (word, side) for word in ("cancel", "up", "down", "accent") for side in range(2)]
        every_track = [list(range(len(meanings)))]
        self.assertEqual(strikes_of(bar_text(0, NO_SWELL, *meanings), strip_text(len(meanings), every_track)), [0])

    def test_a_track_that_means_nothing(self):
        text = "bar 3 60\ntail 0\nforce 40 10 20\nswell 0 0 0\n1 key 7\n"
        self.assertEqual(strikes_of(text, "strip 3\n1 0 1 2\n"), struck((0, 7, 40)))

    def test_by_row_then_by_key_not_by_track(self):
        text = bar_text(0, NO_SWELL, "key 127", "key 3", "soft", "key 0", "key 12", force=(40, 0, 0))
        strip = strip_text(5, [[0, 1, 3, 4], [], [1, 4], [0, 3]])
        self.assertEqual(strikes_of(text, strip), struck(
            (0, 0, 40), (0, 3, 40), (0, 12, 40), (0, 127, 40), (2, 3, 40), (2, 12, 40), (3, 0, 40), (3, 127, 40)))

    def test_a_key_is_struck_again_behind_a_row_at_which_it_does_not_sound(self):
        for tail in (0, 1, 2, 15):
            text = bar_text(tail, NO_SWELL, "key 1")
            near = strip_text(1, [[0]] + [[]] * tail + [[0]])
            far = strip_text(1, [[0]] + [[]] * (tail + 1) + [[0]])
            with self.subTest(tail=tail):
                self.assertEqual(strikes_of(text, near), struck((0, 1, 40)))
                self.assertEqual(strikes_of(text, far), struck((0, 1, 40), (tail + 2, 1, 40)))

    def test_a_run_of_holes_is_one_strike(self):
        self.assertEqual(strikes_of(bar_text(0, NO_SWELL, "key 1"), "strip 1\n256 0\n"), struck((0, 1, 40)))
        self.assertEqual(strikes_of(bar_text(0, NO_SWELL, "key 1"), "strip 1\n3\n9 0\n"), struck((3, 1, 40)))

    def test_the_split(self):
        keys = ["key 0", "key 59", "key 60", "key 127", "lock 0 1"]
        expected = {0: (50, 50, 50, 50), 1: (40, 50, 50, 50), 59: (40, 50, 50, 50), 60: (40, 40, 50, 50),
                    61: (40, 40, 40, 50), 127: (40, 40, 40, 50), 128: (40, 40, 40, 40)}
        for split, hard in expected.items():
            text = bar_text(0, NO_SWELL, *keys, split=split)
            with self.subTest(split=split):
                self.assertEqual(strikes_of(text, "strip 5\n1 0 1 2 3 4\n"), struck(
                    (0, 0, hard[0]), (0, 59, hard[1]), (0, 60, hard[2]), (0, 127, hard[3])))

    def test_the_force_is_the_side_s_at_that_row(self):
        text = bar_text(0, (100, 16, 0), "key 70", "lock 1 1", "cancel 1", "up 1", "accent 1", "soft", "key 5")
        strip = strip_text(7, [[0], [1], [0, 6], [3], [0], [2], [0, 1], [4], [0, 4], [5], [0, 4, 5, 6], [], [0]])
        self.assertEqual(strikes_of(text, strip), struck(
            (0, 70, 40), (2, 5, 40), (2, 70, 60), (4, 70, 62), (6, 70, 62), (8, 70, 82), (10, 5, 30), (10, 70, 62),
            (12, 70, 62)))

    def test_a_force_of_127_and_soft(self):
        text = bar_text(0, NO_SWELL, "key 1", "key 70", "accent 1", "soft", force=(100, 0, 60))
        self.assertEqual(strikes_of(text, "strip 4\n1 0 1 2\n1\n1 0 1 2 3\n"), struck(
            (0, 1, 100), (0, 70, 127), (2, 1, 75), (2, 70, 96)))

    def test_a_strike_at_the_last_row_and_none_behind_it(self):
        text = bar_text(15, NO_SWELL, "key 1", "key 2")
        self.assertEqual(strikes_of(text, "strip 2\n255 0\n1 0 1\n"), struck((0, 1, 40), (255, 2, 40)))

    def test_the_highest_track(self):
        text = "bar 128 60\ntail 0\nforce 40 10 20\nswell 0 0 0\n126 key 9\n127 key 8\n"
        self.assertEqual(strikes_of(text, "strip 128\n1 125 126 127\n"), struck((0, 8, 40), (0, 9, 40)))

    def test_as_many_strikes_as_there_can_be(self):
        text = bar_text(0, NO_SWELL, *["key %d" % (127 - track) for track in range(128)], force=(40, 0, 0))
        strip = strip_text(128, [list(range(128)), []] * 60)
        given = strikes_of(text, strip)
        self.assertEqual(given, struck(*[(row, key, 40) for row in range(0, 120, 2) for key in range(128)]))
        self.assertEqual(given[0], 7680)

    def test_they_are_what_the_rows_say_one_by_one(self):
        calls = [bar(BAR), read(STRIP)] + [force(0, row, side) for row in range(5) for side in (0, 1)] + [strikes(0)]
        given = ask(*calls)
        self.assertEqual(given[-1], struck((0, 60, given[3][0]), (4, 59, given[10][0])))

    def test_bars_and_strips_of_every_shape(self):
        source = random.Random(3)
        most = 0
        for attempt in range(150):
            case = random_case(source)
            expected = slow_strikes(case)
            most = max(most, len(expected))
            with self.subTest(attempt=attempt):
                self.assertEqual(strikes_of(case["bar"], case["strip"]), struck(*expected))
        self.assertGreater(most, 20)


class StrikesRefused(unittest.TestCase):
    def test_before_a_bar_stands_first_of_all(self):
        given = ask(strikes(0), read(STRIP), strikes(0), strikes(1), strikes(HIGHEST), bar(BAR), strikes(0))
        self.assertEqual(given, [[-8], [0], [-8], [-8], [-8], BAR_ANSWER, EXAMPLE])

    def test_a_strip_that_is_not_there(self):
        given = ask(bar(BAR), strikes(0), read(STRIP), strikes(0), strikes(1), strikes(HIGHEST), strikes(0))
        self.assertEqual(given[1:], [[-4], [0], EXAMPLE, [-4], [-4], EXAMPLE])

    def test_another_width(self):
        given = ask(bar(BAR), read("strip 7\n"), read("strip 9\n"), read(STRIP), strikes(0), strikes(1), strikes(3),
                    strikes(2))
        self.assertEqual(given[4:], [[-3], [-3], [-4], EXAMPLE])

    def test_the_bar_is_the_one_that_stands(self):
        wide = BAR.replace("bar 8", "bar 9")
        short = BAR.replace("tail 1", "tail 0")
        given = ask(bar(BAR), read(STRIP), bar(wide), strikes(0), bar(short), strikes(0), bar(BAR), strikes(0))
        self.assertEqual(given[3::2], [[-3], struck((0, 60, 50), (2, 60, 60), (4, 59, 40)), EXAMPLE])

    def test_refused_strikes_change_nothing(self):
        given = ask(bar(BAR), read(STRIP), read("strip 9\n"), strikes(2), strikes(1), state(0, 4), strikes(0),
                    read(STRIP), strikes(2))
        self.assertEqual(given[3:], [[-4], [-3], stated(0, 2, 0, 16), EXAMPLE, [2], EXAMPLE])

    def test_strikes_that_are_answered_change_nothing(self):
        given = ask(bar(BAR), read(STRIP), strikes(0), strikes(0), state(0, 4), force(0, 4, 1), strikes(0))
        self.assertEqual(given[2:], [EXAMPLE, EXAMPLE, stated(0, 2, 0, 16), [62], EXAMPLE])
