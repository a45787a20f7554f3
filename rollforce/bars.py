"""Bars: the numbers of force and swell, and what each track means."""

from rollforce.refusals import TextFault
from rollforce.scanner import BLANK, LINE_END, Scanner

MOST_FORCE = 127

# The first lines of a bar's text: a word, then the lowest and the highest of each number.
HEAD = (
    ("bar", ((1, 128), (0, 128))),
    ("tail", ((0, 15),)),
    ("force", ((0, 127), (0, 127), (0, 127))),
    ("swell", ((0, 1023), (0, 1023), (0, 1023))),
)

# The words of the meanings, with the highest of each number that they have.
MEANINGS = {
    "key": (127,),
    "loud": (),
    "soft": (),
    "lock": (2, 1),
    "cancel": (1,),
    "up": (1,),
    "down": (1,),
    "accent": (1,),
    "end": (),
}


class Bar:
    """The nine numbers W, S, G, B, P, A, M, U, D, and of each meaning its track.

    A meaning is its word and two numbers, 0 where it has none.
    """

    def __init__(self, numbers, tracks):
        self.numbers = numbers
        self.width = numbers[0]
        self.split_key = numbers[1]
        self.tail = numbers[2]
        self.base = numbers[3]
        self.step = numbers[4]
        self.accent = numbers[5]
        self.most = numbers[6]
        self.rise = numbers[7]
        self.fall = numbers[8]
        self.tracks = tracks

    def track_bit(self, word, first, second):
        """The bit of the track with this meaning; 0, which never sounds, if there is none."""
        track = self.tracks.get((word, first, second))
        if track is None:
            return 0
        return 1 << track

    def lock_force(self, lock_value):
        """What the base and a lock value give, not yet held at the most: swell and accent may come to it first."""
        return self.base + self.step * lock_value

    def side_of_key(self, key):
        if key < self.split_key:
            return 0
        return 1


def read_bar(text):
    scanner = Scanner(text)
    numbers = []
    for line in HEAD:
        scanner.expect_letters(line[0])
        for bounds in line[1]:
            scanner.expect(BLANK)
            numbers.append(scanner.take_number(bounds[0], bounds[1]))
        scanner.expect(LINE_END)
    return Bar(numbers, read_tracks(scanner, numbers[0]))


def read_tracks(scanner, width):
    tracks = {}
    lowest = 0
    while not scanner.at_end():
        track = scanner.take_number(lowest, width - 1)
        scanner.expect(BLANK)
        meaning = read_meaning(scanner, tracks)
        scanner.expect(LINE_END)
        tracks[meaning] = track
        lowest = track + 1
    return tracks


def read_meaning(scanner, tracks):
    first = scanner.place
    word = scanner.take_word()
    if word not in MEANINGS:
        raise TextFault(first)
    numbers = [0, 0]
    for index, highest in enumerate(MEANINGS[word]):
        scanner.expect(BLANK)
        numbers[index] = scanner.take_number(0, highest)
    meaning = (word, numbers[0], numbers[1])
    if meaning in tracks:
        raise TextFault(first)
    return meaning
