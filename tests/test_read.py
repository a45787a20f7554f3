"""The call read: the new strip's number, its text's faults, and what stands behind a refusal."""

import unittest

from tests.helper import BAR, BAR_ANSWER, STRIP, ask, bar, fault, marked, read, state, stated

ROWS_255 = "strip 2\n100 0\n155 1\n"
ROWS_256 = "strip 2\n100 0\n156 1\n"

FAULTS = [
    # the first line
    "^",
    "^Strip 8\n",
    "^ strip 8\n",
    "^bar 8\n",
    "stri^b 8\n",
    "strip^\n",
    "strip^8\n",
    "strip^\t8\n",
    "strip ^\n",
    "strip ^ 8\n",
    "strip ^x\n",
    "strip ^-1\n",
    "strip ^0\n",
    "strip ^00\n",
    "strip ^08\n",
    "strip ^129\n",
    "strip ^1280\n",
    "strip ^129x",
    "strip 8^ \n",
    "strip 8^ 1\n",
    "strip 8^\r\n",
    "strip 8^x\n",
    # how many rows
    "strip 8\n^\n",
    "strip 8\n^ 1\n",
    "strip 8\n^x\n",
    "strip 8\n^0\n",
    "strip 8\n^0 1\n",
    "strip 8\n^00\n",
    "strip 8\n^01\n",
    "strip 8\n^257\n",
    "strip 8\n^257 x",
    "strip 8\n1 1\n^256 2\n",
    "strip 8\n1 1\n^0 2\n",
    "strip 8\n1 1\n^\n",
    "strip 8\n250 1\n5 2\n^2 1\n",
    "strip 8\n1^x\n",
    ROWS_255 + "^2 0\n",
    # where no row is left
    ROWS_256 + "^1 0\n",
    ROWS_256 + "^1 1\n",
    ROWS_256 + "^0\n",
    ROWS_256 + "^x",
    ROWS_256 + "^\n",
    "strip 8\n256\n^1 0\n",
    # tracks
    "strip 8\n1 ^",
    "strip 8\n1 ^\n",
    "strip 8\n1 ^ 2\n",
    "strip 8\n1 ^x\n",
    "strip 8\n1 ^8\n",
    "strip 8\n1 ^00\n",
    "strip 8\n1 ^01\n",
    "strip 8\n1 ^128\n",
    "strip 8\n1 2 ^2\n",
    "strip 8\n1 2 ^1\n",
    "strip 8\n1 2 ^0\n",
    "strip 8\n1 2 ^03\n",
    "strip 8\n1 2 3 ^8\n",
    "strip 8\n1 2^x\n",
    "strip 8\n1 2^\t3\n",
    "strip 8\n1 2 ^\n",
    "strip 20\n1 10 ^9\n",
    "strip 20\n1 9 ^1",
    "strip 20\n1 1 10 ^2\n",
    "strip 128\n1 127 ^128\n",
    # where no track is left
    "strip 8\n1 7 ^8\n",
    "strip 8\n1 7 ^7\n",
    "strip 8\n1 7 ^\n",
    "strip 8\n1 7 ^",
    "strip 8\n1 7 ^x",
    "strip 1\n1 0 ^1\n",
    # a run with the holes of the run before it
    "strip 8\n1\n1^\n",
    "strip 8\n1\n2^\n",
    "strip 8\n1 1 2\n1 1 2^\n",
    "strip 8\n1 1 2\n1 1 2^",
    "strip 8\n1 1 2\n1 1 2^x",
    "strip 8\n1 1 2\n1 1 2^\n1 x",
    "strip 8\n1 1\n1 2\n1 2^\n",
    "strip 128\n1 0 64 127\n1 0 64 127^\n",
    "strip 8\n200 1\n56 1^\n",
    # bytes behind the end
    STRIP + "^x",
    STRIP + "^\n",
    STRIP + "^ ",
    STRIP + "^strip 8\n",
]


class ReadAnswers(unittest.TestCase):
    def test_strips_are_numbered_as_they_came(self):
        self.assertEqual(ask(read(STRIP), read("strip 88\n"), read(STRIP)), [[0], [1], [2]])

    def test_strips_are_read_before_and_behind_a_bar(self):
        self.assertEqual(ask(read(STRIP), bar(BAR), read(STRIP)), [[0], BAR_ANSWER, [1]])

    def test_a_strip_without_rows(self):
        for width in (1, 88, 128):
            self.assertEqual(ask(read("strip %d\n" % width)), [[0]])

    def test_the_edges_of_rows_and_tracks(self):
        every_track = "".join(" %d" % track for track in range(128))
        texts = [
            "strip 8\n1\n",
            "strip 8\n256\n",
            "strip 8\n256 0 7\n",
            ROWS_255,
            ROWS_256,
            ROWS_255 + "1 0\n",
            "strip 1\n1 0\n1\n1 0\n",
            "strip 128\n1" + every_track + "\n1 127\n254" + every_track + "\n",
            "strip 1\n" + "1 0\n1\n" * 128,
        ]
        for text in texts:
            with self.subTest(text=text):
                self.assertEqual(ask(read(text)), [[0]])

    def test_runs_that_differ_by_one_hole(self):
        for text in ("strip 8\n1\n1 0\n", "strip 8\n1 0\n1\n", "strip 8\n1 0\n1 0 7\n1 7\n1 0\n"):
            with self.subTest(text=text):
                self.assertEqual(ask(read(text)), [[0]])

    def test_each_run_has_as_many_rows_as_it_says(self):
        given = ask(bar(BAR), read(ROWS_255.replace("strip 2", "strip 8")), state(0, 256), state(0, 257))
        self.assertEqual(given[2:], [stated(0, 0, 0, 0), [-1]])

    def test_thirty_two_strips(self):
        given = ask(*[read("strip 8\n")] * 32)
        self.assertEqual(given, [[number] for number in range(32)])


class ReadFaults(unittest.TestCase):
    def test_each_kind_of_fault(self):
        for entry in FAULTS:
            text, place = marked(entry)
            with self.subTest(text=entry):
                self.assertEqual(ask(read(text)), [fault(place)])

    def test_a_text_that_ends_too_early_at_every_place(self):
        for text in (STRIP, "strip 128\n10 2 30\n200\n12 0 127\n"):
            for length in range(len(text)):
                whole = text[:length].endswith("\n")
                with self.subTest(text=text[:length]):
                    self.assertEqual(ask(read(text[:length])), [[0] if whole else fault(length)])

    def test_bytes_that_are_no_digits(self):
        for byte in (0, 9, 13, 47, 58, 128, 178, 255):
            with self.subTest(byte=byte):
                self.assertEqual(ask(read([byte])), [fault(0)])
                self.assertEqual(ask(read(list(b"strip ") + [byte])), [fault(6)])
                self.assertEqual(ask(read(list(b"strip 8") + [byte])), [fault(7)])
                self.assertEqual(ask(read(list(b"strip 8\n1 ") + [byte])), [fault(10)])
                self.assertEqual(ask(read(list(b"strip 8\n1 2") + [byte])), [fault(11)])

    def test_a_number_as_long_as_a_text_may_be(self):
        self.assertEqual(ask(read("strip " + "1" * 29000)), [fault(6)])
        self.assertEqual(ask(read("strip " + "0" * 29000)), [fault(6)])
        self.assertEqual(ask(read("strip 8\n1 " + "7" * 29000)), [fault(10)])


class ReadRefused(unittest.TestCase):
    def test_longer_than_65536_bytes(self):
        self.assertEqual(ask(read("s" * 65537)), [[-2]])
        self.assertEqual(ask(read("s" * 65536)), [fault(1)])
        self.assertEqual(ask(read(STRIP + " " * (65537 - len(STRIP)))), [[-2]])

    def test_thirty_two_are_there(self):
        calls = [read("strip 9\n")] * 31 + [read(STRIP), read(STRIP), bar(BAR), state(31, 4), state(32, 0), read(STRIP)]
        given = ask(*calls)
        self.assertEqual(given[31:], [[31], [-10], BAR_ANSWER, stated(0, 2, 0, 16), [-4], [-10]])

    def test_the_text_is_looked_at_before_the_number_of_strips(self):
        given = ask(*[read(STRIP)] * 32 + [read("x"), read("s" * 65537)])
        self.assertEqual(given[32:], [fault(0), [-2]])

    def test_a_refused_strip_takes_no_number_and_changes_no_bar(self):
        given = ask(
            bar(BAR), read(STRIP), read(STRIP + "1 2"), read("s" * 65537), state(1, 0), read("strip 8\n"), state(0, 4)
        )
        self.assertEqual(given[1:5], [[0], fault(len(STRIP) + 3), [-2], [-4]])
        self.assertEqual(given[5:], [[1], stated(0, 2, 0, 16)])
