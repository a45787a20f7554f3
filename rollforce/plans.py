"""Plans: the lock values that come nearest to the wished forces."""

from rollforce.bars import MOST_FORCE
from rollforce.refusals import OutOfRange, RowsOutOfOrder

MOST_WISHES = 256
MOST_ROW = 65535


class Wish:
    """A row, a side and the force that is wished there."""

    def __init__(self, row, side, force):
        self.row = row
        self.side = side
        self.force = force


class Plan:
    """What the sides' best choices cost together, and the value of each moment by its side and row."""

    def __init__(self):
        self.cost = 0
        self.chosen = {}

    def choose(self, span, value, cost):
        """Gives all moments of a span one value, at its cost."""
        self.cost += cost
        for wish in span:
            self.chosen[(wish.side, wish.row)] = value

    def value_for(self, wish):
        return self.chosen[(wish.side, wish.row)]


def read_wishes(numbers):
    wishes = []
    for place in range(0, len(numbers), 3):
        wishes.append(Wish(numbers[place], numbers[place + 1], numbers[place + 2]))
    check_ranges(wishes)
    check_order(wishes)
    return wishes


def check_ranges(wishes):
    if len(wishes) > MOST_WISHES:
        raise OutOfRange()
    for wish in wishes:
        if wish.row > MOST_ROW or wish.side > 1 or wish.force > MOST_FORCE:
            raise OutOfRange()


def check_order(wishes):
    before = 0
    for wish in wishes:
        if wish.row < before:
            raise RowsOutOfOrder()
        before = wish.row


def best_plan(bar, wishes):
    plan = Plan()
    for side in range(2):
        values = side_values(bar, side)
        spans = part_in_spans([wish for wish in wishes if wish.side == side], bar.tail + 2)
        choose_best(plan, spans, [value_costs(bar, values, span) for span in spans])
    return plan


def part_in_spans(wishes, gap):
    """One side's wishes in spans: all moments of a span are to have one value, as they lie too near together."""
    spans = []
    for wish in wishes:
        if len(spans) == 0 or wish.row >= spans[-1][-1].row + gap:
            spans.append([])
        spans[-1].append(wish)
    return spans


def side_values(bar, side):
    """The values that a side's moments may have, the lowest first."""
    values = [0]
    # Without its cancel a side can't get rid of a lock again.
    if bar.track_bit("cancel", side, 0) == 0:
        return values
    for which in range(3):
        if bar.track_bit("lock", which, side) != 0:
            values = values + [value + (1 << which) for value in values]
    return values


def value_costs(bar, values, span):
    """Of each value, what it costs in a span."""
    costs = {}
    for value in values:
        force = min(bar.lock_force(value), MOST_FORCE)
        costs[value] = sum([abs(force - wish.force) for wish in span])
    return costs


def cheapest_values(costs):
    """The values that cost least in a span: no span binds another, so the best choice has one of these there."""
    least = min(costs.values())
    return [value for value, cost in costs.items() if cost == least]


def choose_best(plan, spans, costs):
    rests = fewest_changes([cheapest_values(span_costs) for span_costs in costs])
    before = 0
    for place, span in enumerate(spans):
        value = best_way(before, rests[place])[1]
        plan.choose(span, value, costs[place][value])
        before = value


def fewest_changes(choices):
    """Of each span and each value that it may have, the fewest changes that come behind the span.

    It is gone through from the last span, so that all that follows a span is known already.
    """
    rests = []
    later = {}
    for values in reversed(choices):
        rest = {}
        for value in values:
            rest[value] = best_way(value, later)[0]
        rests.append(rest)
        later = rest
    rests.reverse()
    return rests


def best_way(before, rest):
    """The fewest changes from a span on, behind a value, and the lowest value that the span has with so few."""
    ways = []
    for value, changes in rest.items():
        if value == before:
            ways.append((changes, value))
        else:
            ways.append((changes + 1, value))
    # Behind the last span there is nothing left to change.
    return min(ways, default=(0, 0))
