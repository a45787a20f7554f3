"""The list of calls, the list of answers, and what answers leaves alone."""

import contextlib
import inspect
import io
import sys
import unittest

from rollforce.desk import answers
from tests.helper import BAR, BAR_ANSWER, STRIP, bar, bar_text, force, plan, read, state, strikes, strip_text

WISHES = [(0, 1, 60), (1, 1, 70), (4, 1, 70), (5, 1, 40)]
EVERY_ANSWER = (
    state(0, 0) + force(0, 0, 0) + strikes(0) + plan() + bar("x") + bar("b" * 65537) + bar(BAR) + state(0, 0)
    + read(STRIP) + read("") + read("strip 9\n") + read("strip 8\n") + state(0, 4) + state(1, 0) + state(0, 7)
    + state(9, 9) + force(0, 4, 1) + force(1, 0, 0) + force(0, 0, 2) + force(9, 9, 9) + strikes(0) + strikes(1)
    + strikes(2) + strikes(9) + plan(*WISHES) + plan() + plan((0, 2, 0)) + plan((1, 0, 0), (0, 0, 0))
)
EVERY_ANSWER_GIVEN = (
    [1, -8] * 4 + [4, -6, 1, 0, 0, 1, -2, 13] + BAR_ANSWER + [1, -4]
    + [1, 0, 4, -6, 1, 0, 0, 1, 1, 1, 2, 7, 0, 4, 0, 2, 0, 16, 0, 1, -3, 1, -1]
    + [1, -4, 1, 62, 1, -3, 1, -1, 1, -4, 9, 2, 6, 0, 60, 50, 4, 59, 40, 0, 1, -3]
    + [1, 0, 1, -4, 7, 40, 4, 2, 2, 2, 2, 0, 1, 0, 1, -1, 1, -3]
)


HEAD_AND_NINES = "bar " + "9" * 20000


class Untouched(list):
    """A list that can't be changed."""

    def refuse(self, *given):
        raise AssertionError("what is handed in was changed")

    append = clear = extend = insert = pop = remove = reverse = sort = refuse
    __setitem__ = __delitem__ = __iadd__ = __imul__ = refuse


class Interface(unittest.TestCase):
    def test_how_many_numbers_then_these(self):
        self.assertEqual(answers(EVERY_ANSWER), EVERY_ANSWER_GIVEN)

    def test_one_call(self):
        self.assertEqual(answers([2, 9] + list(b"strip 88\n")), [1, 0])
        self.assertEqual(answers([2, 0]), [4, -6, 1, 0, 0])
        self.assertEqual(answers([1, 0]), [4, -6, 1, 0, 0])

    def test_whole_numbers_in_a_list(self):
        given = answers(EVERY_ANSWER)
        self.assertIs(type(given), list)
        self.assertEqual({type(number) for number in given}, {int})

    def test_what_is_handed_in_is_not_changed(self):
        calls = list(EVERY_ANSWER)
        answers(calls)
        self.assertEqual(calls, EVERY_ANSWER)

    def test_what_is_handed_in_is_not_changed_for_a_while_either(self):
        self.assertEqual(answers(Untouched(EVERY_ANSWER)), EVERY_ANSWER_GIVEN)

    def test_nothing_is_printed_or_imported(self):
        before = set(sys.modules)
        with contextlib.redirect_stdout(io.StringIO()) as out, contextlib.redirect_stderr(io.StringIO()) as errors:
            answers(EVERY_ANSWER)
        self.assertEqual(out.getvalue() + errors.getvalue(), "")
        self.assertEqual(set(sys.modules) - before, set())

    def test_what_is_as_long_as_its_input_is_gone_through_by_loops(self):
        line = "".join(" %d" % track for track in range(8))
        long_strip = "strip 8\n" + ("1" + line + "\n1\n") * 128
        wishes = [(3 * place, place % 2, place % 128) for place in range(256)]
        calls = bar(BAR) + bar(HEAD_AND_NINES) + read(long_strip) + state(0, 257) * 370 + strikes(0) + plan(*wishes) * 2
        usual = sys.getrecursionlimit()
        sys.setrecursionlimit(len(inspect.stack()) + 40)
        try:
            given = answers(calls)
        finally:
            sys.setrecursionlimit(usual)
        self.assertEqual(given[-260], 259)

    def test_nothing_is_kept_from_one_time_to_the_next(self):
        first = answers(EVERY_ANSWER)
        first.clear()
        self.assertEqual(answers(state(0, 0)), [1, -8])
        self.assertEqual(answers(read(STRIP)), [1, 0])
        self.assertEqual(answers(bar(BAR) + state(0, 0)), [13] + BAR_ANSWER + [1, -4])
        self.assertEqual(answers(EVERY_ANSWER), EVERY_ANSWER_GIVEN)

    def test_as_many_calls_as_there_may_be(self):
        strip = "strip 8\n" + "1 5\n1 0 1 2 3 4 5 6 7\n" * 128
        calls = bar(BAR.replace("tail 1", "tail 15")) + read(strip) + state(0, 271) * 398
        given = answers(calls)
        self.assertEqual(given[14:16], [1, 0])
        self.assertEqual(given[16:], [7, 0, 4, 0, 3, 0, 100, 0] * 398)

    def test_each_call_as_often_as_it_may_come(self):
        meanings = ["key %d" % key for key in range(100, 110)] + ["lock 0 1", "cancel 1", "up 1", "accent 1", "soft"]
        strip = strip_text(15, [list(range(15)), []] * 32 + [[]] * 192)
        head = bar(bar_text(0, (100, 8, 4), *meanings)) + read(strip)
        given = answers(head + force(0, 256, 1) * 398)
        self.assertEqual(given[16:], [1, 62] * 398)
        given = answers(head + strikes(0) * 398)
        self.assertEqual(given[16:19], [963, 320, 960])
        self.assertTrue(given[16:] == given[16:16 + 964] * 398)
        self.assertLess(len(given), 1000000)
        calls = head + plan(*[(2 * place, 1, 45) for place in range(256)]) * 38
        self.assertLessEqual(len(calls), 31000)
        self.assertEqual(answers(calls)[16:], ([259, 1280, 256] + [0] * 257) * 38)
        self.assertEqual(answers(head + plan() * 398)[16:], [1, 0] * 398)

    def test_a_text_as_long_as_it_may_be(self):
        line = "".join(" %d" % track for track in range(128))
        strip = "strip 128\n" + ("1" + line + "\n1 0\n") * 70
        self.assertEqual(answers(read(strip)), [1, 0])
        self.assertLess(25000, len(strip))
        self.assertEqual(answers(read("strip 8\n" + "1\n" * 14000)), [4, -6, 1, 11, 0])
