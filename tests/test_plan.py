"""The call plan: the best choices of lock values for wished forces, and its refusals."""

import itertools
import random
import unittest

from tests.helper import (
    BAR, BAR_ANSWER, STRIP, ask, bar, bar_text, force, plan, planned, read, state, stated, strikes, struck,
)

NO_SWELL = (0, 0, 0)
HIGHEST = 4294967295
ALL_LOCKS = ["%s %d" % (word, side) for side in (0, 1) for word in ("lock 0", "lock 1", "lock 2", "cancel")]
EXAMPLE_WISHES = [(0, 1, 60), (1, 1, 70), (4, 1, 70), (5, 1, 40)]
EXAMPLE = planned(40, 2, 2, 2, 2)


def plan_of(bar_lines, *wishes):
    given = ask(bar(bar_lines), plan(*wishes))
    assert given[0][0] == 0, given[0]
    return given[1]


def locks_of(side, meanings):
    """A side's values, by the document's words."""
    if "cancel %d" % side not in meanings:
        return [0]
    weights = [2 ** which for which in range(3) if "lock %d %d" % (which, side) in meanings]
    return sorted(sum(some) for count in range(4) for some in itertools.combinations(weights, count))


def may_be(choice, moments, tail):
    pairs = zip(moments, moments[1:], choice, choice[1:])
    return all(value == later or row + tail + 2 <= later_row for row, later_row, value, later in pairs)


def rank(choice, moments, wishes, numbers):
    """A choice's cost, its changes and itself: the best one has the lowest of all three."""
    chosen = dict(zip(moments, choice))
    cost = sum(abs(min(127, numbers[0] + numbers[1] * chosen[row]) - hard) for row, side, hard in wishes)
    changes = sum(value != before for before, value in zip((0,) + choice, choice))
    return cost, changes, choice


def slow_plan(tail, numbers, meanings, wishes):
    """The best choices found by trying all of them, one by one."""
    total = 0
    chosen = {}
    for side in (0, 1):
        own = [wish for wish in wishes if wish[1] == side]
        moments = sorted({wish[0] for wish in own})
        choices = itertools.product(locks_of(side, meanings), repeat=len(moments))
        best = min(rank(choice, moments, own, numbers) for choice in choices if may_be(choice, moments, tail))
        total += best[0]
        chosen.update({(row, side): value for row, value in zip(moments, best[2])})
    return planned(total, *[chosen[(wish[0], wish[1])] for wish in wishes])


def long_plan(tail, numbers, meanings, wishes):
    """The best choices found from the first moment on: of each last value the best choice that ends with it."""
    total = 0
    chosen = {}
    for side in (0, 1):
        own = [wish for wish in wishes if wish[1] == side]
        moments = sorted({wish[0] for wish in own})
        ends = {0: (0, 0, ())}
        for place, row in enumerate(moments):
            bound = place > 0 and row < moments[place - 1] + tail + 2
            hards = [wish[2] for wish in own if wish[0] == row]
            longer = {}
            for value in locks_of(side, meanings):
                cost = sum(abs(min(127, numbers[0] + numbers[1] * value) - hard) for hard in hards)
                ways = [(end[0] + cost, end[1] + (before != value), end[2] + (value,))
                        for before, end in ends.items() if before == value or not bound]
                longer[value] = min(ways)
            ends = longer
        best = min(ends.values())
        total += best[0]
        chosen.update({(row, side): value for row, value in zip(moments, best[2])})
    return planned(total, *[chosen[(wish[0], wish[1])] for wish in wishes])


def random_wishes(source, most_moments, tail, hards):
    """Wishes in the order of their rows, with gaps about the tail and now and then several of one row."""
    wishes = []
    row = source.randint(0, 3)
    for moment in range(source.randint(0, most_moments)):
        for again in range(source.choice((1, 1, 1, 2, 3))):
            wishes.append((row, source.randint(0, 1), source.choice(hards)))
        row += source.choice((1, tail + 1, tail + 2, tail + 3, 40))
    return wishes


def random_plan(source, most_moments):
    """A bar's tail, numbers and meanings, and wishes."""
    meanings = source.sample(ALL_LOCKS, source.randint(4, 8))
    tail = source.choice((0, 0, 1, 2, 15))
    numbers = source.choice(((40, 10, 0), (0, 1, 0), (60, 20, 0), (3, 0, 9), (127, 127, 127),
                             (source.randint(0, 127), source.randint(0, 40), 5)))
    # Few different forces, near the values' own, make choices of equal cost.
    near = [min(127, numbers[0] + numbers[1] * value // 2) for value in range(15)]
    hards = source.choice((near, near[:6], list(range(128))))
    return tail, numbers, meanings, random_wishes(source, most_moments, tail, hards)


class PlanAnswers(unittest.TestCase):
    def test_the_example(self):
        self.assertEqual(plan_of(BAR, *EXAMPLE_WISHES), [40, 4, 2, 2, 2, 2, 0])

    def test_no_wishes(self):
        self.assertEqual(plan_of(BAR), [0])
        self.assertEqual(plan_of(bar_text(0, NO_SWELL)), [0])

    def test_one_wish(self):
        for hard, value, cost in ((0, 0, 40), (40, 0, 0), (44, 0, 4), (46, 1, 4), (60, 2, 0), (127, 3, 57)):
            with self.subTest(hard=hard):
                self.assertEqual(plan_of(BAR, (3, 1, hard)), planned(cost, value))

    def test_no_strip_is_needed_and_its_width_is_not_asked(self):
        given = ask(bar(BAR), plan(*EXAMPLE_WISHES), read("strip 9\n"), plan(*EXAMPLE_WISHES))
        self.assertEqual(given[1::2], [EXAMPLE, EXAMPLE])

    def test_the_values_of_each_set_of_locks(self):
        for count in range(4):
            for some in itertools.combinations(range(3), count):
                for side in (0, 1):
                    meanings = ["cancel %d" % side] + ["lock %d %d" % (which, side) for which in some]
                    text = bar_text(0, NO_SWELL, *meanings, force=(0, 1, 0))
                    given = plan_of(text, *[(2 * hard, side, hard) for hard in range(8)])
                    values = locks_of(side, meanings)
                    with self.subTest(some=some, side=side):
                        self.assertEqual(sorted(set(given[2:-1])), values)
                        self.assertEqual(given[0], sum(min(abs(hard - value) for value in values)
                                                       for hard in range(8)))

    def test_a_side_with_locks_and_no_cancel_has_0_alone(self):
        text = bar_text(0, NO_SWELL, "lock 0 0", "lock 1 0", "lock 2 0", "lock 0 1", "cancel 1")
        self.assertEqual(plan_of(text, (0, 0, 110), (9, 0, 40)), planned(70, 0, 0))
        self.assertEqual(plan_of(text, (0, 1, 110), (9, 1, 40)), planned(60, 1, 0))

    def test_a_side_with_a_cancel_and_no_locks_has_0_alone(self):
        text = bar_text(0, NO_SWELL, "cancel 0", "lock 0 1", "lock 2 1")
        self.assertEqual(plan_of(text, (0, 0, 90), (0, 1, 90)), planned(100, 0, 0))

    def test_a_bar_without_meanings(self):
        self.assertEqual(plan_of(bar_text(0, NO_SWELL), (0, 0, 41), (1, 1, 38), (2, 0, 40)), planned(3, 0, 0, 0))

    def test_a_bar_with_every_kind_of_meaning(self):
        text = bar_text(1, (80, 24, 9), "key 1", "loud", "soft", "lock 2 1", "cancel 1", "up 1", "down 1", "accent 1",
                        "end", "key 99", "lock 0 1", force=(10, 5, 7))
        self.assertEqual(plan_of(text, (0, 1, 33), (3, 1, 14), (3, 0, 20), (6, 1, 10)), planned(13, 5, 1, 0, 0))

    def test_neither_swell_nor_accent_nor_soft_counts(self):
        text = bar_text(0, (1023, 1023, 0), "up 0", "accent 0", "soft", "lock 0 0", "cancel 0")
        self.assertEqual(plan_of(text, (0, 0, 50), (2, 0, 40), (4, 0, 60)), planned(10, 1, 0, 1))

    def test_a_force_is_127_at_most(self):
        text = bar_text(0, NO_SWELL, *ALL_LOCKS[:4], force=(100, 20, 0))
        self.assertEqual(plan_of(text, (0, 0, 127)), planned(0, 2))
        self.assertEqual(plan_of(text, (0, 0, 124)), planned(3, 2))
        self.assertEqual(plan_of(text, (0, 0, 123)), planned(3, 1))
        even = bar_text(0, NO_SWELL, *ALL_LOCKS[:4], force=(120, 7, 0))
        self.assertEqual(plan_of(even, (0, 0, 127)), planned(0, 1))
        full = bar_text(0, NO_SWELL, *ALL_LOCKS, force=(127, 127, 127))
        self.assertEqual(plan_of(full, (0, 0, 0), (0, 1, 127)), planned(127, 0, 0))

    def test_a_force_of_127_and_of_128(self):
        self.assertEqual(plan_of(BAR, (0, 0, 127)), planned(87, 0))
        self.assertEqual(plan_of(BAR, (0, 0, 128)), [-1])

    def test_a_row_of_65535_and_of_65536(self):
        self.assertEqual(plan_of(BAR, (0, 1, 40), (65535, 1, 70)), planned(0, 0, 3))
        self.assertEqual(plan_of(BAR, (0, 1, 40), (65536, 1, 70)), [-1])

    def test_moments_that_lie_g_and_1_and_g_and_2_apart(self):
        for tail in (0, 1, 2, 15):
            text = bar_text(tail, NO_SWELL, *ALL_LOCKS)
            for first in (0, 7):
                with self.subTest(tail=tail, first=first):
                    near = plan_of(text, (first, 0, 40), (first + tail + 1, 0, 70))
                    far = plan_of(text, (first, 0, 40), (first + tail + 2, 0, 70))
                    self.assertEqual(near, planned(30, 0, 0))
                    self.assertEqual(far, planned(0, 0, 3))

    def test_the_gap_is_from_the_moment_before_not_from_the_span_s_first(self):
        text = bar_text(2, NO_SWELL, *ALL_LOCKS)
        self.assertEqual(plan_of(text, (0, 0, 40), (3, 0, 40), (6, 0, 40), (9, 0, 110)), planned(70, 0, 0, 0, 0))
        self.assertEqual(plan_of(text, (0, 0, 40), (3, 0, 40), (6, 0, 40), (10, 0, 110)), planned(0, 0, 0, 0, 7))

    def test_the_other_side_s_moments_bind_nothing(self):
        text = bar_text(3, NO_SWELL, *ALL_LOCKS)
        self.assertEqual(plan_of(text, (0, 0, 40), (2, 1, 80), (4, 1, 80), (5, 0, 90)), planned(0, 0, 4, 4, 5))

    def test_wishes_of_one_row_and_one_side_have_one_value(self):
        text = bar_text(0, NO_SWELL, *ALL_LOCKS)
        self.assertEqual(plan_of(text, (5, 0, 40), (5, 0, 60), (5, 0, 60)), planned(20, 2, 2, 2))
        self.assertEqual(plan_of(text, (5, 0, 60), (5, 0, 40), (5, 0, 60), (7, 0, 40)), planned(20, 2, 2, 2, 0))

    def test_wishes_of_one_row_and_both_sides(self):
        text = bar_text(0, NO_SWELL, *ALL_LOCKS)
        self.assertEqual(plan_of(text, (5, 0, 60), (5, 1, 110)), planned(0, 2, 7))
        self.assertEqual(plan_of(text, (5, 1, 60), (5, 0, 110), (5, 1, 63), (7, 1, 40), (7, 0, 41)),
                         planned(4, 2, 7, 2, 0, 0))

    def test_the_cost_is_that_of_both_sides_together(self):
        self.assertEqual(plan_of(BAR, (0, 0, 10), (0, 1, 90), (2, 0, 41), (9, 1, 33)), planned(58, 0, 3, 0, 0))

    def test_of_equal_cost_the_fewest_changes(self):
        text = bar_text(0, NO_SWELL, *ALL_LOCKS)
        # 45 is as far from 40 as from 50: with 0 in the middle there are two changes more.
        self.assertEqual(plan_of(text, (0, 0, 50), (2, 0, 45), (4, 0, 50)), planned(5, 1, 1, 1))
        self.assertEqual(plan_of(text, (0, 0, 60), (2, 0, 55), (4, 0, 60)), planned(5, 2, 2, 2))
        self.assertEqual(plan_of(text, (0, 0, 45), (2, 0, 45), (4, 0, 40)), planned(10, 0, 0, 0))

    def test_the_first_moment_s_change_is_from_0(self):
        text = bar_text(0, NO_SWELL, *ALL_LOCKS)
        # Value 0 first has one change, from 0 to 2; value 1 first has two.
        self.assertEqual(plan_of(text, (0, 0, 45), (2, 0, 60)), planned(5, 0, 2))
        # 0 then 3 and 3 from the first on have one change each: the lower at the first moment.
        self.assertEqual(plan_of(text, (0, 0, 40), (0, 0, 70), (2, 0, 70)), planned(30, 0, 0, 3))

    def test_fewest_changes_come_before_the_lower_value(self):
        text = bar_text(0, NO_SWELL, *ALL_LOCKS)
        # 50 60 55 60: the third moment may be 1 or 2, and 2 leaves out two changes.
        self.assertEqual(plan_of(text, (0, 0, 50), (2, 0, 60), (4, 0, 55), (6, 0, 60)), planned(5, 1, 2, 2, 2))

    def test_of_equal_cost_and_changes_the_lower_value_at_the_first_difference(self):
        text = bar_text(0, NO_SWELL, *ALL_LOCKS)
        # From 2 to 1 the change may come at the second, the third or the fourth moment.
        self.assertEqual(plan_of(text, (0, 0, 60), (2, 0, 55), (4, 0, 55), (6, 0, 50)), planned(10, 2, 1, 1, 1))
        # From 1 to 2 it comes as late as it may.
        self.assertEqual(plan_of(text, (0, 0, 50), (2, 0, 55), (4, 0, 55), (6, 0, 60)), planned(10, 1, 1, 1, 2))
        # From 0 to 1 the change may come at either moment.
        self.assertEqual(plan_of(text, (0, 0, 45), (2, 0, 50)), planned(5, 0, 1))
        self.assertEqual(plan_of(text, (0, 0, 50), (2, 0, 45), (4, 0, 40)), planned(5, 1, 0, 0))
        self.assertEqual(plan_of(text, (0, 0, 55)), planned(5, 1))
        self.assertEqual(plan_of(text, (0, 0, 50), (0, 0, 110)), planned(60, 1, 1))

    def test_with_a_step_of_0_no_lock_is_worth_a_change(self):
        text = bar_text(0, NO_SWELL, *ALL_LOCKS, force=(40, 0, 0))
        self.assertEqual(plan_of(text, (0, 0, 90), (9, 0, 10)), planned(80, 0, 0))

    def test_least_cost_comes_before_few_changes(self):
        text = bar_text(0, NO_SWELL, *ALL_LOCKS, force=(0, 1, 0))
        hards = [3, 2, 7, 0, 1, 5, 4, 6]
        self.assertEqual(plan_of(text, *[(2 * place, 1, hard) for place, hard in enumerate(hards)]),
                         planned(0, *hards))

    def test_the_tail_and_the_locks_are_those_of_the_bar_that_stands(self):
        long = BAR.replace("tail 1", "tail 2")
        given = ask(bar(BAR), plan(*EXAMPLE_WISHES), bar(long), plan((0, 1, 40), (3, 1, 70)), bar(BAR),
                    plan((0, 1, 40), (3, 1, 70)))
        self.assertEqual(given[1::2], [EXAMPLE, planned(30, 0, 0), planned(0, 0, 3)])


class PlanIsTheBest(unittest.TestCase):
    def check(self, tail, numbers, meanings, wishes, expected):
        text = bar_text(tail, NO_SWELL, *meanings, force=numbers)
        with self.subTest(bar=text, wishes=wishes):
            self.assertEqual(plan_of(text, *wishes), expected)

    def test_against_all_choices_tried_one_by_one(self):
        source = random.Random(4)
        for attempt in range(500):
            case = random_plan(source, 4)
            self.check(*case, slow_plan(*case))

    def test_against_all_choices_of_all_short_rows_of_wishes(self):
        meanings = ["lock 0 0", "lock 1 0", "cancel 0"]
        for count in range(5):
            for hards in itertools.product((0, 5, 10, 15), repeat=count):
                wishes = [(2 * place, 0, hard) for place, hard in enumerate(hards)]
                case = (0, (0, 10, 0), meanings, wishes)
                self.check(*case, slow_plan(*case))

    def test_against_choices_made_from_the_first_moment_on(self):
        source = random.Random(5)
        for attempt in range(150):
            case = random_plan(source, 60)
            if len(case[3]) <= 256:
                self.check(*case, long_plan(*case))

    def test_256_wishes(self):
        source = random.Random(6)
        for apart in (1, 2, 3, 4):
            wishes = [(apart * place, source.randint(0, 1), source.randint(30, 120)) for place in range(256)]
            case = (1, (40, 10, 0), ALL_LOCKS, wishes)
            self.check(*case, long_plan(*case))


class PlanRefused(unittest.TestCase):
    def test_before_a_bar_stands_first_of_all(self):
        given = ask(plan(), plan((0, 1, 60)), plan(*[(0, 0, 0)] * 257), plan((65536, 0, 0)), plan((0, 2, 0)),
                    plan((0, 0, 128)), plan((1, 0, 0), (0, 0, 0)), read(STRIP), plan(), bar(BAR), plan(*EXAMPLE_WISHES))
        self.assertEqual(given, [[-8]] * 7 + [[0], [-8], BAR_ANSWER, EXAMPLE])

    def test_256_wishes_and_257_wishes(self):
        given = ask(bar(BAR), plan(*[(0, 0, 40)] * 256), plan(*[(0, 0, 40)] * 257), plan(*[(0, 1, 41)] * 333),
                    plan(*EXAMPLE_WISHES))
        self.assertEqual(given[1:], [planned(0, *[0] * 256), [-1], [-1], EXAMPLE])
        both = [(row, side, 40 + row % 2) for row in range(128) for side in (0, 1)]
        self.assertEqual(plan_of(BAR, *both), planned(128, *[0] * 256))
        self.assertEqual(plan_of(BAR, *both, (128, 0, 0)), [-1])

    def test_a_number_above_its_range(self):
        for wish in ((65536, 0, 0), (HIGHEST, 0, 0), (0, 2, 0), (0, HIGHEST, 0), (0, 0, 128), (0, 0, HIGHEST)):
            with self.subTest(wish=wish):
                given = ask(bar(BAR), plan(wish), plan((0, 0, 40), wish), plan(wish, (65535, 0, 40)),
                            plan(*EXAMPLE_WISHES))
                self.assertEqual(given[1:], [[-1], [-1], [-1], EXAMPLE])

    def test_the_highest_numbers_that_may_be(self):
        self.assertEqual(plan_of(BAR, (65535, 1, 127)), planned(57, 3))

    def test_a_row_below_that_of_the_wish_before(self):
        given = ask(bar(BAR), plan((1, 0, 40), (0, 0, 40)), plan((1, 0, 40), (0, 1, 40)),
                    plan((0, 0, 40), (9, 0, 40), (8, 0, 40), (9, 0, 40)), plan((65535, 1, 40), (65534, 1, 40)),
                    plan((8, 0, 40), (8, 1, 40), (8, 0, 40)), plan(*EXAMPLE_WISHES))
        self.assertEqual(given[1:], [[-3], [-3], [-3], [-3], planned(0, 0, 0, 0), EXAMPLE])

    def test_ranges_come_before_the_order(self):
        for wish in ((65536, 0, 0), (9, 2, 0), (9, 0, 128)):
            with self.subTest(wish=wish):
                self.assertEqual(plan_of(BAR, (1, 0, 0), (0, 0, 0), wish), [-1])
                self.assertEqual(plan_of(BAR, wish, (1, 0, 0), (0, 0, 0)), [-1])
        self.assertEqual(plan_of(BAR, (65536, 0, 0), (0, 0, 0)), [-1])
        self.assertEqual(plan_of(BAR, *[(9, 0, 0)] * 256, (0, 0, 0)), [-1])
        self.assertEqual(plan_of(BAR, *[(9, 0, 0)] * 255, (0, 0, 0)), [-3])

    def test_a_refused_plan_changes_nothing(self):
        refused = [plan((0, 0, 128)), plan((1, 0, 0), (0, 0, 0)), plan(*[(0, 0, 0)] * 257)]
        given = ask(bar(BAR), read(STRIP), *refused, state(0, 4), force(0, 4, 1), strikes(0), read(STRIP),
                    plan(*EXAMPLE_WISHES))
        self.assertEqual(given[2:], [[-1], [-3], [-1], stated(0, 2, 0, 16), [62], struck((0, 60, 50), (4, 59, 40)), [1],
                                     EXAMPLE])

    def test_a_plan_that_is_answered_changes_nothing(self):
        given = ask(bar(BAR), read(STRIP), plan((0, 1, 70)), state(0, 4), plan(*EXAMPLE_WISHES), force(0, 4, 1),
                    plan(*EXAMPLE_WISHES), plan((0, 1, 70)))
        self.assertEqual(given[2:], [planned(0, 3), stated(0, 2, 0, 16), EXAMPLE, [62], EXAMPLE, planned(0, 3)])
