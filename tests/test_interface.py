"""The list of calls, the list of answers, and what answers leaves alone."""

import unittest

from rollforce.desk import answers
from tests.helper import BAR, BAR_ANSWER, STRIP, bar, read, state

EVERY_ANSWER = (
    state(0, 0) + bar("x") + bar("b" * 65537) + bar(BAR) + state(0, 0) + read(STRIP) + read("") + read("strip 9\n")
    + state(0, 4) + state(1, 0) + state(0, 7) + state(9, 9)
)
EVERY_ANSWER_GIVEN = (
    [1, -8, 4, -6, 1, 0, 0, 1, -2, 13] + BAR_ANSWER + [1, -4, 1, 0, 4, -6, 1, 0, 0, 1, 1]
    + [7, 0, 4, 0, 2, 0, 16, 0, 1, -3, 1, -1, 1, -4]
)


class Interface(unittest.TestCase):
    def test_how_many_numbers_then_these(self):
        self.assertEqual(answers(EVERY_ANSWER), EVERY_ANSWER_GIVEN)

    def test_one_call(self):
        self.assertEqual(answers([2, 9] + list(b"strip 88\n")), [1, 0])
        self.assertEqual(answers([2, 0]), [4, -6, 1, 0, 0])
        self.assertEqual(answers([1, 0]), [4, -6, 1, 0, 0])

    def test_whole_numbers_in_a_list(self):
        given = answers(EVERY_ANSWER)
        self.assertIs(type(given), list)
        self.assertEqual({type(number) for number in given}, {int})

    def test_what_is_handed_in_is_not_changed(self):
        calls = list(EVERY_ANSWER)
        answers(calls)
        self.assertEqual(calls, EVERY_ANSWER)

    def test_nothing_is_kept_from_one_time_to_the_next(self):
        first = answers(EVERY_ANSWER)
        first.clear()
        self.assertEqual(answers(state(0, 0)), [1, -8])
        self.assertEqual(answers(read(STRIP)), [1, 0])
        self.assertEqual(answers(bar(BAR) + state(0, 0)), [13] + BAR_ANSWER + [1, -4])
        self.assertEqual(answers(EVERY_ANSWER), EVERY_ANSWER_GIVEN)

    def test_as_many_calls_as_there_may_be(self):
        strip = "strip 8\n" + "1 5\n1 0 1 2 3 4 5 6 7\n" * 128
        calls = bar(BAR.replace("tail 1", "tail 15")) + read(strip) + state(0, 271) * 398
        given = answers(calls)
        self.assertEqual(given[14:16], [1, 0])
        self.assertEqual(given[16:], [7, 0, 4, 0, 3, 0, 100, 0] * 398)

    def test_a_text_as_long_as_it_may_be(self):
        line = "".join(" %d" % track for track in range(128))
        strip = "strip 128\n" + ("1" + line + "\n1 0\n") * 70
        self.assertEqual(answers(read(strip)), [1, 0])
        self.assertLess(25000, len(strip))
        self.assertEqual(answers(read("strip 8\n" + "1\n" * 14000)), [4, -6, 1, 11, 0])
