"""The section `ladderdays/sums.py`, against a plain reckoning over stretches."""

import random
import unittest

from ladderdays.errors import InvalidLadder, InvalidNumber, InvalidRow
from ladderdays.sums import (added_up, amounts, can_keep, firmest, first_over, first_under, is_firm, is_tight, least,
                             most, row_within, tightest, where_least, where_most)
from tests.plain import Case, ladder_again, ladder_from, ladder_least, number_of, numbers_of, settled
from tests.tally import (BAD_BOUNDS, BAD_ROWS, closed, draw_bound, draw_row, plain_extreme, row_from, row_least,
                         row_upto, span_of, stretch_sums)

NOTHING = ([], [0])
FREE = ([], [0], 10 ** 9)


def plain_sums(row):
    start, length = len(row[0]), len(row[1])
    numbers = row_upto(row, start + 2 * length)
    return ladder_from([sum(numbers[:many]) for many in range(start + 2 * length)], start, length)


def plain_amounts(bound):
    start, length = len(bound[0]), len(bound[1])
    numbers = numbers_of(bound, start + 2 * length + 1)
    return row_from([high - low for low, high in zip(numbers, numbers[1:])], start, length)


def plain_beyond(row, bound, choose, beyond):
    """The first length and first day of a stretch beyond a bound."""
    extreme = plain_extreme(row, choose)
    for length in range(settled(extreme, bound) + len(extreme[1]) + len(bound[1])):
        for day, total in enumerate(stretch_sums(row, length, span_of(row))):
            if beyond(total, number_of(bound, length)):
                return length, day
    return None


def over(total, told):
    return total > told


def under(total, told):
    return total < told


def rows(seed, times, **limits):
    chance = random.Random(seed)
    for _ in range(times):
        yield draw_row(chance, **limits)


def bounds(seed, times, **limits):
    chance = random.Random(seed)
    for _ in range(times):
        bound = draw_bound(chance, **limits)
        yield ladder_again(bound, chance.choice([0, 0, 1]), chance.choice([1, 1, 2]))


def looked(ladder):
    """So many lengths that show what comes over and over."""
    return len(ladder[0]) + 2 * len(ladder[1]) + 30


class Sums(Case):
    def test_added_up(self):
        for row in rows(901, 250):
            self.answers(added_up, (row,), plain_sums(row))
        self.answers(added_up, (NOTHING,), ([], [0], 0))
        self.answers(added_up, (([3, 0], [0, 0]),), ([0], [3], 0))
        self.answers(added_up, (([], [5, 5, 5]),), ([], [0], 5))
        self.answers(added_up, (([10 ** 9] * 3, [10 ** 9, 0]),),
                     ([0, 10 ** 9, 2 * 10 ** 9], [3 * 10 ** 9, 4 * 10 ** 9], 10 ** 9))

    def test_amounts(self):
        for bound in bounds(902, 250):
            self.answers(amounts, (bound,), plain_amounts(bound))
        self.answers(amounts, (([0, 0, 4], [4, 4], 3),), ([0, 4, 0], [0, 3]))
        self.answers(amounts, (([], [0], 0),), NOTHING)
        self.answers(amounts, (([0], [10 ** 9], 0),), ([10 ** 9], [0]))

    def test_one_after_the_other(self):
        for row in rows(903, 120):
            self.told(amounts(added_up(row)), row_least(row))
        for bound in bounds(904, 120):
            self.told(added_up(amounts(bound)), ladder_least(bound))

    def test_of_the_greatest_size(self):
        chance = random.Random(905)
        row = ([chance.randint(0, 10 ** 9) for _ in range(60)], [chance.randint(0, 10 ** 9) for _ in range(60)])
        self.answers(added_up, (row,), plain_sums(row))
        self.told(amounts(added_up(row)), row)
        row = ([chance.randint(0, 10 ** 9) for _ in range(1000)], [chance.randint(0, 10 ** 9) for _ in range(1000)])
        self.told(amounts(added_up(row)), row)


class MostAndLeast(Case):
    def test_drawn(self):
        for row in rows(911, 250):
            self.answers(most, (row,), plain_extreme(row, max))
            self.answers(least, (row,), plain_extreme(row, min))

    def test_by_hand(self):
        for row, high, low in ((NOTHING, ([], [0], 0), ([], [0], 0)), (([], [7]), ([], [0], 7), ([], [0], 7)),
                               (([5], [0]), ([0], [5], 0), ([], [0], 0)),
                               (([0, 9], [1]), ([0], [9], 1), ([0, 0], [2], 1)),
                               (([], [0, 0, 4]), ([], [0, 4, 4], 4), ([], [0, 0, 0], 4)),
                               (([0] * 4, [3]), ([], [0], 3), ([0] * 4, [0], 3))):
            self.answers(most, (row,), high)
            self.answers(least, (row,), low)

    def test_where(self):
        for row in rows(912, 120):
            for length in list(range(0, 12)) + [40]:
                sums = stretch_sums(row, length, 2 * span_of(row))
                self.answers(where_most, (row, length), sums.index(max(sums)))
                self.answers(where_least, (row, length), sums.index(min(sums)))

    def test_where_far(self):
        for row in rows(913, 120):
            for far in (10 ** 31, 10 ** 30 + 7, 3 * 10 ** 9 + 1):
                # The sum of a long stretch is that of rounds and of a short one behind the beginning.
                length = len(row[0]) + (far - len(row[0])) % len(row[1]) + len(row[1])
                sums = stretch_sums(row, length, span_of(row))
                self.answers(where_most, (row, far), sums.index(max(sums)))
                self.answers(where_least, (row, far), sums.index(min(sums)))

    def test_of_the_greatest_size(self):
        chance = random.Random(914)
        for _ in range(2):
            row = ([chance.randint(0, 10 ** 9) for _ in range(60)], [chance.randint(0, 10 ** 9) for _ in range(60)])
            self.told(most(row), plain_extreme(row, max))
            self.told(least(row), plain_extreme(row, min))
            self.answers(where_most, (row, 10 ** 31), where_most(row, 60 + (10 ** 31 - 60) % 60 + 60))

    def test_it_is_kept_and_no_lesser_one(self):
        for row in rows(915, 100):
            self.told(first_over(row, most(row)), None)
            self.told(first_under(row, least(row)), None)


class Beyond(Case):
    def test_drawn(self):
        chance = random.Random(921)
        kept = 0
        for row in rows(922, 300):
            bound = draw_bound(chance, 6, 12)
            wanted = plain_beyond(row, bound, max, over)
            self.answers(first_over, (row, bound), wanted)
            kept += wanted is None
            wanted = plain_beyond(row, bound, min, under)
            self.answers(first_under, (row, bound), wanted)
            kept += wanted is None
        self.assertTrue(100 < kept < 500, kept)

    def test_just_kept_and_just_not(self):
        chance = random.Random(923)
        for row in rows(924, 150):
            high, low = most(row), least(row)
            length = chance.randint(1, 12)
            lower = [min(number, number_of(high, length) - 1) for number in numbers_of(high, length + 1)]
            later = [number for number in numbers_of(high, 2 * length + len(high[1]) * 3 + 8)[length + 1:]]
            if number_of(high, length) > 0:
                bound = (lower + later[:-len(high[1])], later[-len(high[1]):], high[2])
                wanted = plain_beyond(row, bound, max, over)
                self.assertIsNotNone(wanted)
                self.answers(first_over, (row, bound), wanted)
            raised = [max(number, number_of(low, length) + 1) for number in numbers_of(low, length + 60)[length:]]
            if number_of(low, length + 60) > number_of(low, length):
                bound = (numbers_of(low, length) + raised, [number_of(low, length + 60)], 0)
                wanted = plain_beyond(row, bound, min, under)
                self.assertEqual(wanted[0], length)
                self.answers(first_under, (row, bound), wanted)

    def test_by_hand(self):
        self.answers(first_over, (NOTHING, ([], [0], 0)), None)
        self.answers(first_over, (([], [0, 0, 1]), ([], [0], 0)), (1, 2))
        self.answers(first_over, (([0, 0, 5], [1]), ([0], [5, 5], 1)), (2, 2))
        self.answers(first_over, (([0, 0, 5], [1]), ([0, 5], [6], 0)), (3, 2))
        self.answers(first_under, (([], [1]), FREE), (1, 0))
        self.answers(first_under, (([4], [4, 4, 3]), ([], [0], 4)), (1, 3))
        self.answers(first_under, (NOTHING, ([0] * 9, [1], 0)), (9, 0))

    def test_far(self):
        # It takes long until a bound that rises a little slower is outdone.
        row, bound = ([], [3] * 59 + [4]), ([0], [10 ** 9 + 3] * 60, 180)
        found = first_over(row, bound)
        # Of 60 more each time the row has one more than the bound.
        self.assertTrue(abs(found[0] - 60 * (10 ** 9 + 3 - 180)) < 400)
        self.assertGreater(number_of(most(row), found[0]), number_of(bound, found[0]))
        for less in range(1, 200):
            self.assertLessEqual(number_of(most(row), found[0] - less), number_of(bound, found[0] - less))
        self.answers(first_over, (row, bound), found)
        row, bound = ([0] * 60, [10 ** 9]), ([0] * 60, [0], 10 ** 9 + 1)
        self.answers(first_under, (row, bound), (61, 0))
        self.answers(first_under, (([], [10 ** 9]), ([0] * 2, [0], 10 ** 9 + 1)), (2 * 10 ** 9 + 3, 0))


class Closure(Case):
    def check(self, bound):
        for function, choose in ((tightest, min), (firmest, max)):
            found = self.ask(function, bound)
            many = looked(found)
            self.told(numbers_of(found, many), closed(bound, many, choose), (function, bound))
            self.told(found, ladder_least(found))
            self.told(self.ask(function, found), found)

    def test_drawn(self):
        for bound in bounds(931, 500, most_number=12):
            self.check(bound)

    def test_drawn_of_any_size(self):
        for bound in bounds(932, 150):
            self.check(bound)

    def test_all_small_ones(self):
        for steps in range(3 ** 5):
            numbers = [0]
            for _ in range(4):
                steps, step = divmod(steps, 3)
                numbers.append(numbers[-1] + step)
            for start in range(0, 5, 2):
                least_rise = numbers[-1] - numbers[start]
                for rise in (least_rise, least_rise + 1):
                    bound = numbers[:start], numbers[start:], rise
                    for function, choose in ((tightest, min), (firmest, max)):
                        found = function(bound)
                        many = looked(found)
                        self.told(numbers_of(found, many), closed(bound, many, choose), (function, bound))

    def test_that_take_long(self):
        # Parts whose losses are little less than those of others, so that much comes ahead of the round.
        for bound in (([0, 4, 4, 9], [30, 30, 30], 9), ([0, 30, 30, 30, 30, 30, 30], [30], 1),
                      ([0, 1, 3, 5, 7, 9, 11], [30], 2), ([0, 0, 0, 0, 0, 0, 1], [1], 30),
                      ([0, 5, 10, 15, 20, 25, 29], [30], 5), ([0, 30], [30, 30, 30, 30, 30, 30], 29),
                      ([0, 0, 0, 7, 7, 7], [30, 30], 5), ([0, 29, 30], [30, 30, 30, 30, 30], 0)):
            self.check(bound)

    def test_by_hand(self):
        for bound, tight, firm in ((([], [0], 0), ([], [0], 0), ([], [0], 0)), (([], [0], 3), ([], [0], 3), ([], [0], 3)),
                                   (([0], [7], 0), ([0], [7], 0), ([], [0], 7)),
                                   (([], [0, 0], 5), ([], [0], 0), ([], [0, 0], 5)),
                                   (([], [0, 1, 5], 5), ([], [0], 1), ([], [0, 1], 5))):
            self.answers(tightest, (bound,), tight)
            self.answers(firmest, (bound,), firm)

    def test_is_tight_and_is_firm(self):
        for bound in bounds(933, 120, most_number=12):
            tight, firm = closed(bound, 30, min), closed(bound, 30, max)
            for length, number in enumerate(numbers_of(bound, 30)):
                self.told(is_tight(bound, length), number == tight[length])
                self.told(is_firm(bound, length), number == firm[length])
            self.answers(is_tight, (bound, 5), number_of(bound, 5) == tight[5])
            self.answers(is_firm, (bound, 5), number_of(bound, 5) == firm[5])
            for far in (10 ** 31, 10 ** 31 - 1):
                self.answers(is_tight, (bound, far), number_of(bound, far) == number_of(tightest(bound), far))
                self.answers(is_firm, (bound, far), number_of(bound, far) == number_of(firmest(bound), far))

    def test_of_what_they_returned(self):
        for bound in bounds(934, 60, most_number=12):
            for length in (0, 3, 10 ** 31):
                self.answers(is_tight, (tightest(bound), length), True)
                self.answers(is_firm, (firmest(bound), length), True)

    def test_rows_that_keep_a_bound_keep_its_closure(self):
        chance = random.Random(935)
        kept = 0
        for row in rows(936, 400, most_number=2):
            bound = draw_bound(chance, 5, 12)
            if first_over(row, bound) is None:
                self.told(first_over(row, tightest(bound)), None)
                kept += 1
            if first_under(row, bound) is None:
                self.told(first_under(row, firmest(bound)), None)
                kept += 1
        self.assertGreater(kept, 150)


class Keeping(Case):
    def test_drawn(self):
        chance = random.Random(941)
        kept = 0
        for above in bounds(942, 300, most_places=6, most_number=10):
            below = draw_bound(chance, 6, chance.choice([3, 10]))
            high, low = tightest(above), firmest(below)
            many = settled(high, low) + len(high[1]) + len(low[1])
            lengths = [length for length, (here, there) in enumerate(zip(numbers_of(high, many), numbers_of(low, many)))
                       if there > here]
            wanted = lengths[0] if lengths else None
            self.answers(can_keep, (above, below), wanted)
            row = self.ask(row_within, above, below)
            if wanted is None:
                kept += 1
                self.told(row, row_least(row))
                self.told(plain_beyond(row, above, max, over), None)
                self.told(plain_beyond(row, below, min, under), None)
            else:
                self.told(row, None)
        self.assertTrue(80 < kept < 250, kept)

    def test_by_hand(self):
        for above, below, wanted in ((([], [0], 0), ([], [0], 0), None), (([], [0], 0), ([0] * 7, [1], 0), 7),
                                     (([0], [5], 0), ([], [0], 0), None), (([], [0], 3), ([], [0], 3), None),
                                     (([], [0, 0, 4], 4), ([], [0, 0, 1], 1), 2),
                                     (([0], [5], 0), ([], [0] * 6, 1), 36)):
            self.answers(can_keep, (above, below), wanted)
            if wanted is not None:
                self.answers(row_within, (above, below), None)

    def test_what_they_returned(self):
        for above in bounds(943, 60, most_places=6, most_number=10):
            self.told(can_keep(tightest(above), firmest(above)), can_keep(above, above))
            row = row_within(above, ([], [0], 0))
            self.told(first_over(row, above), None)
            self.told(can_keep(most(row), least(row)), None)

    def test_no_row_keeps_both_if_none_is_told(self):
        chance = random.Random(944)
        for row in rows(945, 300, most_early=2, most_turn=3, most_number=2):
            above, below = draw_bound(chance, 4, 8), draw_bound(chance, 4, 8)
            if first_over(row, above) is None and first_under(row, below) is None:
                self.told(can_keep(above, below), None)


class Errors(Case):
    def test_rows(self):
        for bad in BAD_ROWS:
            for function in (added_up, most, least):
                self.refuses(function, (bad,), InvalidRow, bad)
            for length in (0, 5, -1):
                self.refuses(where_most, (bad, length), InvalidRow, bad)
                self.refuses(where_least, (bad, length), InvalidRow, bad)
            for bound in (FREE, BAD_BOUNDS[0], BAD_BOUNDS[3]):
                self.refuses(first_over, (bad, bound), InvalidRow, bad)
                self.refuses(first_under, (bad, bound), InvalidRow, bad)

    def test_bounds(self):
        for bad in BAD_BOUNDS:
            for function in (amounts, tightest, firmest):
                self.refuses(function, (bad,), InvalidLadder, bad)
            for length in (0, 5, -1):
                self.refuses(is_tight, (bad, length), InvalidLadder, bad)
                self.refuses(is_firm, (bad, length), InvalidLadder, bad)
            for function in (first_over, first_under):
                self.refuses(function, (([], [1]), bad), InvalidLadder, bad)
            for function in (can_keep, row_within):
                self.refuses(function, (bad, FREE), InvalidLadder, bad)
                self.refuses(function, (FREE, bad), InvalidLadder, bad)
                self.refuses(function, (bad, BAD_BOUNDS[0]), InvalidLadder, bad)
                self.refuses(function, (([], [0], 0), bad), InvalidLadder, bad)

    def test_lengths(self):
        for length in (-1, -10 ** 31):
            for function in (where_most, where_least):
                self.refuses(function, (([], [1]), length), InvalidNumber, length)
            for function in (is_tight, is_firm):
                self.refuses(function, (FREE, length), InvalidNumber, length)

    def test_what_is_right(self):
        for row in (NOTHING, ([], [0, 10 ** 9]), ([0], [0]), ([10 ** 9] * 60, [0] * 60)):
            for function in (added_up, most, least):
                self.ask(function, row)
            self.ask(where_most, row, 0)
            self.ask(first_under, row, FREE)
        for bound in (([], [0], 0), ([0, 0], [0], 0), ([0], [30], 30), ([], [0, 30], 30)):
            for function in (amounts, tightest, firmest):
                self.ask(function, bound)
            self.ask(is_tight, bound, 0)


if __name__ == "__main__":
    unittest.main()
