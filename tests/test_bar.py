"""The call bar: its answer, its text's faults, and what stands behind a refusal."""

import re
import unittest

from tests.helper import BAR, BAR_ANSWER, HEAD, STRIP, ask, bar, fault, marked, read, state, stated

FAULTS = [
    # the first four lines: words byte by byte, blanks, line's ends
    "^",
    "^Bar 8 60\n",
    "^ bar 8 60\n",
    "^\nbar 8 60\n",
    "ba^d 8 60\n",
    "bar^s 8 60\n",
    "bar^\n",
    "bar ^ 8 60\n",
    "bar 8^\n60\n",
    "bar 8 ^ 60\n",
    "bar 8 60^ \n",
    "bar 8 60^\r\n",
    "bar 8 60^x\n",
    "bar 8 60\n^\n",
    "bar 8 60\n^force 1 2 3\n",
    "bar 8 60\ntai^n 1\n",
    "bar 8 60\ntail 1\n^swell 1 2 3\n",
    "bar 8 60\ntail 1\nforc^k 1 2 3\n",
    "bar 8 60\ntail 1\nforce 1 2^\n",
    "bar 8 60\ntail 1\nforce 1 2 3^ 4\n",
    "bar 8 60\ntail 1\nforce 1 2 3\nswel^t 1 2 3\n",
    "bar 8 60\ntail 1\nforce 1 2 3\nswell 1 2 3^ 4\n",
    # numbers that are missing, have a needless 0, or are out of their range
    "bar ^x 60\n",
    "bar ^-8 60\n",
    "bar ^+8 60\n",
    "bar ^0 60\n",
    "bar ^00 60\n",
    "bar ^08 60\n",
    "bar ^129 60\n",
    "bar ^1000 60\n",
    "bar 8 ^129\n",
    "bar 8 ^060\n",
    "bar 8 ^00\n",
    "bar 8 60\ntail ^16\n",
    "bar 8 60\ntail ^01\n",
    "bar 8 60\ntail ^\n",
    "bar 8 60\ntail 1\nforce ^128 2 3\n",
    "bar 8 60\ntail 1\nforce 1 ^128 3\n",
    "bar 8 60\ntail 1\nforce 1 2 ^128\n",
    "bar 8 60\ntail 1\nforce 1 2 ^03\n",
    "bar 8 60\ntail 1\nforce 1 2 3\nswell ^1024 2 3\n",
    "bar 8 60\ntail 1\nforce 1 2 3\nswell 1 ^1024 3\n",
    "bar 8 60\ntail 1\nforce 1 2 3\nswell 1 2 ^1024\n",
    "bar 8 60\ntail 1\nforce 1 2 3\nswell 1 ^00 3\n",
    # a number is all the digits that stand there, whatever stands behind
    "bar ^999x",
    "bar ^01x",
    "bar 1^x",
    HEAD.replace("bar 8", "bar 128") + "9 loud\n^1",
    # tracks
    HEAD + "^\n",
    HEAD + "^ 0 loud\n",
    HEAD + "^loud\n",
    HEAD + "^8 loud\n",
    HEAD + "^00 loud\n",
    HEAD + "^01 loud\n",
    HEAD + "3 loud\n^3 soft\n",
    HEAD + "3 loud\n^2 soft\n",
    HEAD + "3 loud\n^8 soft\n",
    HEAD + "3 loud\n^\n",
    HEAD + "0^\n",
    HEAD + "0^loud\n",
    HEAD + "7 loud\n^8 soft\n",
    HEAD + "7 loud\n^7 soft\n",
    HEAD + "7 loud\n^x",
    HEAD + "7 loud\n^\n",
    # words that aren't the table's
    HEAD + "0 ^",
    HEAD + "0 ^\n",
    HEAD + "0 ^ loud\n",
    HEAD + "0 ^Loud\n",
    HEAD + "0 ^4\n",
    HEAD + "0 ^keys 3\n",
    HEAD + "0 ^ke 3\n",
    HEAD + "0 ^ke",
    HEAD + "0 ^loudloud\n",
    HEAD + "0 ^nothing\n",
    HEAD + "0 ^louda\n",
    HEAD + "0 ^loudz\n",
    HEAD + "0 ^bar 1\n",
    HEAD + "0 key^S 3\n",
    HEAD + "0 ^`\n",
    HEAD + "0 ^{\n",
    HEAD + "0 key^`60\n",
    HEAD + "0 key^{60\n",
    # a meaning's numbers
    HEAD + "0 key^\n",
    HEAD + "0 key ^\n",
    HEAD + "0 key ^128\n",
    HEAD + "0 key ^060\n",
    HEAD + "0 key 60^ \n",
    HEAD + "0 key 60^ 1\n",
    HEAD + "0 key ^/\n",
    HEAD + "0 key ^:\n",
    HEAD + "0 loud^ \n",
    HEAD + "0 loud^ 1\n",
    HEAD + "0 soft^ 1\n",
    HEAD + "0 end^ 1\n",
    HEAD + "0 lock ^3 0\n",
    HEAD + "0 lock 2 ^2\n",
    HEAD + "0 lock 2^\n",
    HEAD + "0 lock 2 1^ 0\n",
    HEAD + "0 lock 2 ^01\n",
    HEAD + "0 cancel ^2\n",
    HEAD + "0 up ^2\n",
    HEAD + "0 down ^2\n",
    HEAD + "0 accent ^2\n",
    HEAD + "0 cancel^\n",
    HEAD + "0 up 1^ 1\n",
    # a meaning that another track has already
    HEAD + "0 loud\n1 ^loud\n",
    HEAD + "0 loud\n1 ^loud",
    HEAD + "0 loud\n1 ^loud 7\n",
    HEAD + "0 soft\n1 up 0\n2 ^soft\n",
    HEAD + "0 end\n1 ^end\n",
    HEAD + "0 key 6\n1 ^key 6\n",
    HEAD + "0 key 6\n1 ^key 6",
    HEAD + "0 key 6\n1 ^key 6x",
    HEAD + "0 key 6\n1 key ^06\n",
    HEAD + "0 key 6\n1 key 60^",
    HEAD + "0 lock 1 0\n1 ^lock 1 0\n",
    HEAD + "0 lock 1 0\n1 lock 1^",
    HEAD + "0 lock 1 0\n1 lock 1 ^x",
    HEAD + "0 cancel 1\n1 ^cancel 1\n",
    HEAD + "0 up 1\n1 ^up 1\n",
    HEAD + "0 down 0\n1 ^down 0\n",
    HEAD + "0 accent 0\n1 ^accent 0\n",
]


def expected_when_cut(text, length):
    """The fault of a bar's text without what stands from a place on; None if it's a bar's text."""
    part = text[:length]
    if part.endswith("\n") and part.count("\n") >= 4:
        return None
    cut_word = re.search("(?<=[0-9] )[a-z]+$", part)
    if cut_word and text[length] != " " and text[length] != "\n":
        return cut_word.start()
    return length


class BarAnswers(unittest.TestCase):
    def test_the_example(self):
        self.assertEqual(ask(bar(BAR)), [BAR_ANSWER])

    def test_no_track_means_something(self):
        self.assertEqual(ask(bar(HEAD)), [BAR_ANSWER[:-2] + [0, 0]])

    def test_the_lowest_numbers(self):
        text = "bar 1 0\ntail 0\nforce 0 0 0\nswell 0 0 0\n0 key 0\n"
        self.assertEqual(ask(bar(text)), [[0, 10, 1, 0, 0, 0, 0, 0, 0, 0, 0, 1, 0]])

    def test_the_highest_numbers(self):
        text = "bar 128 128\ntail 15\nforce 127 127 127\nswell 1023 1023 1023\n127 key 127\n"
        self.assertEqual(ask(bar(text)), [[0, 10, 128, 128, 15, 127, 127, 127, 1023, 1023, 1023, 1, 0]])

    def test_each_number_at_its_place(self):
        text = "bar 9 1\ntail 2\nforce 3 4 5\nswell 6 7 8\n"
        self.assertEqual(ask(bar(text)), [[0, 10, 9, 1, 2, 3, 4, 5, 6, 7, 8, 0, 0]])

    def test_every_meaning_there_is(self):
        meanings = ["key %d" % key for key in range(18, 128)] + ["loud", "soft", "end"]
        meanings += ["lock %d %d" % (which, side) for which in range(3) for side in range(2)]
        meanings += ["%s %d" % (word, side) for word in ("cancel", "up", "down", "accent") for side in range(2)]
        self.assertEqual(len(meanings), 127)
        lines = ["%d %s\n" % (track, meaning) for track, meaning in enumerate(meanings)]
        text = HEAD.replace("bar 8", "bar 128") + "".join(lines)
        self.assertEqual(ask(bar(text))[0][-2:], [127, 0])

    def test_the_same_numbers_with_another_word_or_side_are_another_meaning(self):
        text = HEAD + "0 up 0\n1 down 0\n2 up 1\n3 lock 1 0\n4 lock 0 1\n5 lock 0 0\n6 cancel 0\n7 accent 0\n"
        self.assertEqual(ask(bar(text))[0][-2:], [8, 0])

    def test_tracks_may_be_left_out(self):
        self.assertEqual(ask(bar(HEAD + "2 loud\n7 end\n"))[0][-2:], [2, 0])


class BarFaults(unittest.TestCase):
    def test_each_kind_of_fault(self):
        for entry in FAULTS:
            text, place = marked(entry)
            with self.subTest(text=entry):
                self.assertEqual(ask(bar(text)), [fault(place)])

    def test_a_text_that_ends_too_early_at_every_place(self):
        every_kind = HEAD.replace("bar 8", "bar 128") + (
            "0 key 59\n1 key 100\n2 loud\n3 soft\n4 lock 2 1\n5 cancel 0\n6 up 1\n7 down 0\n8 accent 1\n99 end\n"
        )
        for text in (BAR, every_kind):
            for length in range(len(text)):
                place = expected_when_cut(text, length)
                with self.subTest(text=text[:length]):
                    given = ask(bar(text[:length]))[0]
                    if place is None:
                        self.assertEqual(given[0], 0)
                    else:
                        self.assertEqual(given, fault(place))

    def test_bytes_that_are_no_letters_or_digits(self):
        for byte in (0, 9, 13, 47, 58, 96, 123, 128, 178, 255):
            with self.subTest(byte=byte):
                self.assertEqual(ask(bar([byte])), [fault(0)])
                self.assertEqual(ask(bar(list(b"bar ") + [byte])), [fault(4)])
                self.assertEqual(ask(bar(list(b"bar 8") + [byte])), [fault(5)])
                self.assertEqual(ask(bar(list(BAR.encode()) + [byte])), [fault(len(BAR))])

    def test_a_number_and_a_word_as_long_as_a_text_may_be(self):
        self.assertEqual(ask(bar("bar " + "9" * 29000)), [fault(4)])
        self.assertEqual(ask(bar("bar " + "0" * 29000)), [fault(4)])
        self.assertEqual(ask(bar(HEAD + "0 " + "k" * 29000)), [fault(len(HEAD) + 2)])

    def test_a_track_is_above_the_one_of_the_line_before(self):
        text, place = marked(HEAD.replace("bar 8", "bar 128") + "100 loud\n^20 soft\n")
        self.assertEqual(ask(bar(text)), [fault(place)])


class BarRefused(unittest.TestCase):
    def test_longer_than_65536_bytes(self):
        self.assertEqual(ask(bar("b" * 65537)), [[-2]])
        self.assertEqual(ask(bar("b" * 65536)), [fault(1)])
        self.assertEqual(ask(bar(BAR + " " * (65537 - len(BAR)))), [[-2]])

    def test_the_bar_before_goes_on_standing(self):
        other = BAR.replace("tail 1", "tail 0") + "x"
        given = ask(bar(BAR), read(STRIP), bar(other), state(0, 4), bar("b" * 65537), state(0, 4))
        self.assertEqual(given[2], fault(len(other) - 1))
        self.assertEqual(given[3], stated(0, 2, 0, 16))
        self.assertEqual(given[4], [-2])
        self.assertEqual(given[5], stated(0, 2, 0, 16))

    def test_no_bar_stands_behind_a_refused_one(self):
        given = ask(read(STRIP), bar(BAR + "x"), state(0, 0), bar(BAR), state(0, 0))
        self.assertEqual(given, [[0], fault(len(BAR)), [-8], BAR_ANSWER, stated(0, 1, 0, 0)])

    def test_a_new_bar_stands_from_then_on_and_strips_stay(self):
        other = "bar 8 60\ntail 0\nforce 1 1 1\nswell 5 3 2\n0 up 0\n1 lock 2 0\n5 up 1\n"
        given = ask(bar(BAR), read(STRIP), state(0, 4), bar(other), state(0, 4), read(STRIP), bar(BAR), state(0, 4))
        self.assertEqual(given[2], stated(0, 2, 0, 16))
        self.assertEqual(given[4], stated(4, 0, 3, 3))
        self.assertEqual(given[5], [1])
        self.assertEqual(given[7], stated(0, 2, 0, 16))
