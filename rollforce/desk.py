"""The calls on one object, and their answers."""

from rollforce.bars import read_bar
from rollforce.plans import best_plan, read_wishes
from rollforce.refusals import DeskFull, NoBar, NoStrip, OtherWidth, OutOfRange, RowsOutOfOrder
from rollforce.refusals import TextFault, TextTooLong, UnknownCall
from rollforce.sides import sides_behind
from rollforce.strikes import list_strikes
from rollforce.strips import read_strip

MOST_BYTES = 65536
MOST_STRIPS = 32

CALL_BAR = 1
CALL_READ = 2
CALL_STATE = 3
CALL_FORCE = 4
CALL_STRIKES = 5
CALL_PLAN = 6


class Desk:
    """The bar that stands, or None, and the strips in the order in which they came."""

    def __init__(self):
        self.bar = None
        self.strips = []

    def put_bar(self, text):
        check_length(text)
        self.bar = read_bar(text)
        return told(0, self.bar.numbers + [len(self.bar.tracks)])

    def put_strip(self, text):
        check_length(text)
        strip = read_strip(text)
        if len(self.strips) == MOST_STRIPS:
            raise DeskFull()
        self.strips.append(strip)
        return told(len(self.strips) - 1, [])

    def check_bar(self):
        if self.bar is None:
            raise NoBar()

    def find_strip(self, number):
        self.check_bar()
        if number >= len(self.strips):
            raise NoStrip()
        strip = self.strips[number]
        if strip.width != self.bar.width:
            raise OtherWidth()
        return strip

    def check_row(self, strip, row):
        if row > len(strip.rows) + self.bar.tail:
            raise OutOfRange()

    def tell_state(self, number, row):
        strip = self.find_strip(number)
        self.check_row(strip, row)
        sides = sides_behind(self.bar, strip, row)
        return told(0, [side.lock_value for side in sides] + [side.swell for side in sides])

    def tell_force(self, number, row, which):
        strip = self.find_strip(number)
        self.check_row(strip, row)
        if which > 1:
            raise OutOfRange()
        side = sides_behind(self.bar, strip, row)[which]
        return told(side.force_by(strip.sounding(row, self.bar.tail)), [])

    def tell_strikes(self, number):
        strip = self.find_strip(number)
        listed = list_strikes(self.bar, strip)
        return told(len(listed) // 3, listed)

    def tell_plan(self, numbers):
        self.check_bar()
        wishes = read_wishes(numbers)
        plan = best_plan(self.bar, wishes)
        return told(plan.cost, [plan.value_for(wish) for wish in wishes])


class Feed:
    """The list of calls, and the place up to which it has been taken."""

    def __init__(self, calls):
        self.calls = calls
        self.place = 0

    def is_used_up(self):
        return self.place >= len(self.calls)

    def take(self):
        number = self.calls[self.place]
        self.place += 1
        return number

    def take_some(self, count):
        some = self.calls[self.place:self.place + count]
        self.place += count
        return some

    def take_row(self):
        count = self.take()
        return self.take_some(count)


def check_length(text):
    if len(text) > MOST_BYTES:
        raise TextTooLong()


def told(number, listed):
    """An answer's numbers; the 0 behind the list is the length of the text, which is always empty."""
    if len(listed) == 0:
        return [number]
    return [number, len(listed)] + listed + [0]


def carry_out(desk, feed):
    call = feed.take()
    if call == CALL_BAR:
        return desk.put_bar(feed.take_row())
    if call == CALL_READ:
        return desk.put_strip(feed.take_row())
    if call == CALL_STATE:
        numbers = feed.take_some(2)
        return desk.tell_state(numbers[0], numbers[1])
    if call == CALL_FORCE:
        numbers = feed.take_some(3)
        return desk.tell_force(numbers[0], numbers[1], numbers[2])
    if call == CALL_STRIKES:
        return desk.tell_strikes(feed.take())
    if call == CALL_PLAN:
        return desk.tell_plan(feed.take_row())
    raise UnknownCall()


def answer(desk, feed):
    try:
        return carry_out(desk, feed)
    except OutOfRange:
        return told(-1, [])
    except TextTooLong:
        return told(-2, [])
    except OtherWidth:
        return told(-3, [])
    except RowsOutOfOrder:
        return told(-3, [])
    except NoStrip:
        return told(-4, [])
    except TextFault as fault:
        return told(-6, [fault.place])
    except NoBar:
        return told(-8, [])
    except DeskFull:
        return told(-10, [])


def answers(calls):
    desk = Desk()
    feed = Feed(calls)
    given = []
    while not feed.is_used_up():
        numbers = answer(desk, feed)
        given.append(len(numbers))
        given.extend(numbers)
    return given
