"""What the tests share: the example, writing calls, and taking answers apart."""

from rollforce.desk import answers

HEAD = "bar 8 60\ntail 1\nforce 40 10 20\nswell 100 8 4\n"
BAR = HEAD + (
    "0 key 59\n1 key 60\n2 lock 0 1\n3 lock 1 1\n4 cancel 1\n5 up 1\n6 accent 1\n7 soft\n"
)
STRIP = "strip 8\n1 1 2\n1\n1 1 3 4\n1 5\n1 0\n"

BAR_ANSWER = [0, 10, 8, 60, 1, 40, 10, 20, 100, 8, 4, 8, 0]


def in_bytes(text):
    return list(text.encode("latin-1")) if isinstance(text, str) else list(text)


def bar(text):
    return [1, len(in_bytes(text))] + in_bytes(text)


def read(text):
    return [2, len(in_bytes(text))] + in_bytes(text)


def state(strip, row):
    return [3, strip, row]


def force(strip, row, side):
    return [4, strip, row, side]


def strikes(strip):
    return [5, strip]


def plan(*wishes):
    return [6, 3 * len(wishes)] + [number for wish in wishes for number in wish]


def ask(*calls):
    """The answer of each call on one new object, as a list of lists."""
    given = answers([number for call in calls for number in call])
    parts = []
    place = 0
    while place < len(given):
        count = given[place]
        parts.append(given[place + 1:place + 1 + count])
        place += 1 + count
    assert place == len(given) and len(parts) == len(calls), given
    return parts


def fault(place):
    return [-6, 1, place, 0]


def stated(*numbers):
    return [0, 4] + list(numbers) + [0]


def struck(*numbers):
    """The answer with these strikes, each told as its row, its key and its force."""
    listed = [number for strike in numbers for number in strike]
    return [len(numbers), len(listed)] + listed + [0] if numbers else [0]


def planned(cost, *lock_values):
    return [cost, len(lock_values)] + list(lock_values) + [0] if lock_values else [cost]


def marked(text):
    """A text with ^ at its fault's place, as the text alone and the place."""
    return text.replace("^", "", 1), text.index("^")


def bar_text(tail, swell, *meanings, force=(40, 10, 20), split=60):
    """A bar's text with a track for each meaning, in their order."""
    lines = ["%d %s" % (track, meaning) for track, meaning in enumerate(meanings)]
    head = ["bar %d %d" % (max(1, len(meanings)), split), "tail %d" % tail]
    head += ["force %d %d %d" % force, "swell %d %d %d" % swell]
    return "".join(line + "\n" for line in head + lines)


def strip_text(width, rows):
    """The text of the strip with these holes, row by row."""
    runs = []
    for holes in rows:
        if runs and runs[-1][1] == holes:
            runs[-1][0] += 1
        else:
            runs.append([1, holes])
    lines = [" ".join(str(number) for number in [count] + holes) for count, holes in runs]
    return "".join(line + "\n" for line in ["strip %d" % width] + lines)


def random_case(source):
    """A bar and a strip of its width, as texts and as what is in them."""
    words = ["lock %d %d" % (which, side) for which in range(3) for side in range(2)] + ["loud", "soft", "end"]
    words += ["%s %d" % (word, side) for word in ("cancel", "up", "down", "accent") for side in range(2)]
    words += ["key %d" % key for key in source.sample(range(128), 6)]
    case = {
        "meanings": source.sample(words, source.randint(1, len(words))),
        "tail": source.choice((0, 1, 2, 3, 15)),
        "split": source.choice((0, 40, 80, 128)),
        "force": (source.randint(0, 80), source.randint(0, 20), source.randint(0, 60)),
        "swell": (source.randint(0, 90), source.randint(0, 30), source.randint(0, 30)),
    }
    width = len(case["meanings"])
    rarity = source.choice((2, 6, 20))
    case["rows"] = [[track for track in range(width) if source.randrange(rarity) == 0]
                    for row in range(source.randint(0, 40))]
    case["bar"] = bar_text(case["tail"], case["swell"], *case["meanings"], force=case["force"], split=case["split"])
    case["strip"] = strip_text(width, case["rows"])
    return case


def slow_sounding(case, row):
    """The meanings that sound at a row, with the holes looked up anew."""
    sounding = set()
    for holed in range(row - case["tail"], row + 1):
        if 0 <= holed < len(case["rows"]):
            sounding.update(case["meanings"][track] for track in case["rows"][holed])
    return sounding


def slow_states(case, last):
    """Both lock values and both swells behind a row, by the document's steps, word by word, from row 0 on."""
    most, rise, fall = case["swell"]
    locks = [0, 0]
    swells = [0, 0]
    for row in range(last + 1):
        sounding = slow_sounding(case, row)
        for side in (0, 1):
            if "cancel %d" % side in sounding:
                locks[side] = 0
            for which, weight in enumerate((1, 2, 4)):
                if "lock %d %d" % (which, side) in sounding and locks[side] // weight % 2 == 0:
                    locks[side] += weight
            change = (rise if "up %d" % side in sounding else 0) - (fall if "down %d" % side in sounding else 0)
            if "up %d" % side in sounding and "down %d" % side in sounding:
                change = 0
            swells[side] = sorted((0, swells[side] + change, most))[1]
    return locks + swells


def slow_force(case, row, side):
    """A side's force at a row, by the document's words."""
    base, step, accent = case["force"]
    numbers = slow_states(case, row)
    sounding = slow_sounding(case, row)
    hard = base + step * numbers[side] + numbers[2 + side] // 8
    if "accent %d" % side in sounding:
        hard += accent
    if hard > 127:
        hard = 127
    return hard - hard // 4 if "soft" in sounding else hard


def slow_strikes(case):
    """Each strike as its row, its key and its force: the first rows of the tones that keys have."""
    found = []
    for row in range(len(case["rows"])):
        before = slow_sounding(case, row - 1) if row > 0 else set()
        for meaning in slow_sounding(case, row) - before:
            if meaning.startswith("key "):
                key = int(meaning[4:])
                found.append((row, key, slow_force(case, row, 0 if key < case["split"] else 1)))
    return sorted(found)
