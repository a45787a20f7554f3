"""What the tests share: the example, writing calls, and taking answers apart."""

from rollforce.desk import answers

HEAD = "bar 8 60\ntail 1\nforce 40 10 20\nswell 100 8 4\n"
BAR = HEAD + (
    "0 key 59\n1 key 60\n2 lock 0 1\n3 lock 1 1\n4 cancel 1\n5 up 1\n6 accent 1\n7 soft\n"
)
STRIP = "strip 8\n1 1 2\n1\n1 1 3 4\n1 5\n1 0\n"

BAR_ANSWER = [0, 10, 8, 60, 1, 40, 10, 20, 100, 8, 4, 8, 0]


def in_bytes(text):
    return list(text.encode("latin-1")) if isinstance(text, str) else list(text)


def bar(text):
    return [1, len(in_bytes(text))] + in_bytes(text)


def read(text):
    return [2, len(in_bytes(text))] + in_bytes(text)


def state(strip, row):
    return [3, strip, row]


def ask(*calls):
    """The answer of each call on one new object, as a list of lists."""
    given = answers([number for call in calls for number in call])
    parts = []
    place = 0
    while place < len(given):
        count = given[place]
        parts.append(given[place + 1:place + 1 + count])
        place += 1 + count
    assert place == len(given) and len(parts) == len(calls), given
    return parts


def fault(place):
    return [-6, 1, place, 0]


def stated(*numbers):
    return [0, 4] + list(numbers) + [0]


def marked(text):
    """A text with ^ at its fault's place, as the text alone and the place."""
    return text.replace("^", "", 1), text.index("^")
