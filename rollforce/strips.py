"""Strips: which tracks have a hole, row by row, and which sound."""

from rollforce.refusals import TextFault
from rollforce.scanner import BLANK, LINE_END, Scanner

MOST_TRACKS = 128
MOST_ROWS = 256


class Strip:
    """A width, and of each row its holes: one whole number whose bit of weight 2^t is track t's."""

    def __init__(self, width, rows):
        self.width = width
        self.rows = rows

    def sounding(self, row, tail):
        """The tracks that sound at a row, as bits; rows behind the last one have no holes."""
        tracks = 0
        for holed in range(max(0, row - tail), min(row + 1, len(self.rows))):
            tracks = tracks | self.rows[holed]
        return tracks


def read_strip(text):
    scanner = Scanner(text)
    scanner.expect_letters("strip ")
    width = scanner.take_number(1, MOST_TRACKS)
    scanner.expect(LINE_END)
    rows = []
    before = None
    while not scanner.at_end():
        count = scanner.take_number(1, MOST_ROWS - len(rows))
        holes = read_holes(scanner, width)
        if holes == before:
            raise TextFault(scanner.place)
        scanner.expect(LINE_END)
        rows.extend([holes] * count)
        before = holes
    return Strip(width, rows)


def read_holes(scanner, width):
    holes = 0
    lowest = 0
    while scanner.sees(BLANK):
        scanner.expect(BLANK)
        track = scanner.take_number(lowest, width - 1)
        holes = holes | (1 << track)
        lowest = track + 1
    return holes
