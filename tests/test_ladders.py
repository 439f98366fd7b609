"""Ladders [5], and the section `ladderdays/ladders.py`: what is made of them and what is told of two."""

import random
import unittest
from fractions import Fraction

from ladderdays.errors import InvalidLadder, InvalidNumber
from ladderdays.ladders import (after, alike, apart, earlier, first_from, first_less, first_unlike, joined, later,
                                least_ladder, plus, power, settles, speed, still, until, value)
from tests.plain import (Case, agreeing, draw_ladder, ladder_again, ladder_from, ladder_least, number_of,
                         numbers_of, orbit, settled, together)

SAME = ([], [0], 1)
ZERO = ([], [0], 0)
FAR = [10 ** 30, 10 ** 30 + 1, 10 ** 30 + 59, 7 * 10 ** 30 + 3, 10 ** 31]
PACES = ["none", "slow", "even", "fast"]


def drawn(seed, many, **limits):
    """Some ladders, of each pace, at times told in a longer way than needed."""
    chance = random.Random(seed)
    made = [SAME, ZERO, ([], [3], 0), ([0, 0, 4], [4], 0), ([1], [1, 1], 2), ([], [0, 3, 3], 3), ([], [0, 1, 2], 3),
            ([0, 1], [2, 3], 2), ([], [5, 5, 5], 0), ([0, 2, 4], [6, 8], 4), ([], [0, 0], 2), ([2, 2], [9], 3)]
    while len(made) < many:
        ladder = draw_ladder(chance, limits.get("pace") or chance.choice(PACES))
        if chance.random() < 0.5:
            ladder = ladder_again(ladder, chance.randint(0, 4), chance.randint(1, 3))
        made.append(ladder)
    return made


def pairs(seed, many):
    """Pairs of ladders, of all paces, also of one pace, alike ones told in two ways, and almost alike ones."""
    chance = random.Random(seed)
    made = []
    for one in drawn(seed + 1, many):
        other = draw_ladder(chance, chance.choice(PACES))
        made.append((one, ladder_again(other, chance.randint(0, 3), chance.randint(1, 2))))
        again = ladder_again(one, chance.randint(0, 4), chance.randint(1, 3))
        made.append((one, again))
        made.append((again, one))
        near = (again[0], [number + 1 for number in again[1]], again[2])
        made.append((near, one) if chance.random() < 0.5 else (one, near))
        steeper = (one[0], one[1], one[2] + 1)
        made.append((steeper, one) if chance.random() < 0.5 else (one, steeper))
    return made


def sixty(seed, size, rise, most=200):
    """A ladder with a beginning and a round of up to sixty places."""
    chance = random.Random(seed)
    start = chance.randint(0, most)
    turn = sorted([start] + [chance.randint(start, start + rise) for _ in range(size - 1)])
    return sorted(chance.randint(0, start) for _ in range(chance.randint(40, 60))), turn, rise


class Told(Case):
    def test_value(self):
        for ladder in drawn(101, 80):
            many = len(ladder[0]) + 3 * len(ladder[1])
            for day, number in enumerate(numbers_of(ladder, many)):
                self.answers(value, (ladder, day), number)

    def test_value_far(self):
        for ladder in drawn(102, 60):
            start, length = len(ladder[0]), len(ladder[1])
            numbers = numbers_of(ladder, start + length)
            for day in FAR:
                times = (day - start) // length
                wanted = numbers[day - times * length] + times * ladder[2]
                self.answers(value, (ladder, day), wanted)

    def test_value_of_six_hundred_places(self):
        chance = random.Random(103)
        early = sorted(chance.randint(0, 10 ** 9) for _ in range(600))
        turn = sorted(chance.randint(early[-1], early[-1] + 600) for _ in range(600))
        ladder = (early, turn, 600)
        numbers = numbers_of(ladder, 1800)
        for day in chance.sample(range(1800), 200) + [0, 599, 600, 1199, 1200]:
            self.assertEqual(value(ladder, day), numbers[day])
        self.answers(value, (ladder, 600 * 10 ** 28 + 7), turn[7] + 600 * (10 ** 28 - 1))

    def test_speed(self):
        for ladder in drawn(104, 80):
            share = Fraction(ladder[2], len(ladder[1]))
            self.answers(speed, (ladder,), (share.numerator, share.denominator))
        self.answers(speed, (([], [4, 4, 4], 0),), (0, 1))
        self.answers(speed, (([], [0] * 60, 600),), (10, 1))
        self.answers(speed, (([], [0] * 60, 599),), (599, 60))


class Made(Case):
    def test_least_ladder(self):
        for ladder in drawn(111, 300):
            self.answers(least_ladder, (ladder,), ladder_least(ladder))

    def test_least_ladder_of_other_ways(self):
        chance = random.Random(112)
        for ladder in drawn(113, 80):
            wanted = ladder_least(ladder)
            for _ in range(3):
                again = ladder_again(wanted, chance.randint(0, 9), chance.randint(1, 4))
                self.answers(least_ladder, (again,), wanted)
            self.answers(least_ladder, (wanted,), wanted)

    def test_least_ladder_by_hand(self):
        self.answers(least_ladder, (([], [0, 1], 3),), ([], [0, 1], 3))
        self.answers(least_ladder, (([], [0, 1], 2),), SAME)
        self.answers(least_ladder, (([0, 1, 2], [3, 4, 5], 3),), SAME)
        self.answers(least_ladder, (([7] * 60, [7] * 60, 0),), ([], [7], 0))
        self.answers(least_ladder, (([0] * 600, [0] * 600, 0),), ZERO)
        self.answers(least_ladder, (([], [0, 0, 1, 1, 2, 2], 3),), ([], [0, 0], 1))
        self.answers(least_ladder, (([0], [0, 1, 1, 2, 2, 3], 3),), ([], [0, 0], 1))
        self.answers(least_ladder, (([0, 1], [1, 2, 3], 2),), ([], [0, 1, 1], 2))
        self.answers(least_ladder, (([0, 0], [1, 2, 3], 2),), ([0, 0], [1, 2, 3], 2))
        for size in (1, 2, 3, 5, 8, 12, 30, 120, 200, 300, 600):
            ladder = ([], [0] * (size - 1) + [2], 3)
            if size > 1:
                self.answers(least_ladder, (ladder_again(ladder, 600, 600 // size),), ladder)

    def test_joined(self):
        for one, other in pairs(114, 60):
            length = len(one[1]) * len(other[1])
            start = len(one[0])
            while one[2] > 0 and number_of(one, start) < len(other[0]):
                start += 1
            numbers = [number_of(other, number) for number in numbers_of(one, start + 2 * length)]
            self.answers(joined, (one, other), ladder_from(numbers, start, length))

    def test_joined_in_its_order(self):
        self.answers(joined, (([], [1], 1), ([], [0], 2)), ([], [2], 2))
        self.answers(joined, (([], [0], 2), ([], [1], 1)), ([], [1], 2))
        self.answers(joined, (ZERO, ([3, 4], [5], 7)), ([], [3], 0))
        self.answers(joined, (([3, 4], [5], 7), ZERO), ZERO)
        self.answers(joined, (([0, 1, 10 ** 9], [10 ** 9], 2), ([0], [1, 1], 600)),
                     ([0, 1, 600 * (10 ** 9 // 2 - 1) + 1], [600 * (10 ** 9 // 2 - 1) + 1], 600))

    def test_mixed(self):
        for one, other in pairs(117, 60):
            start, length = settled(one, other), together(one, other)[1]
            end = start + 2 * length
            both = list(zip(numbers_of(one, end), numbers_of(other, end)))
            least, most = [min(pair) for pair in both], [max(pair) for pair in both]
            total = [sum(pair) for pair in both]
            self.answers(earlier, (one, other), ladder_from(least, start, length))
            self.answers(later, (one, other), ladder_from(most, start, length))
            self.answers(plus, (one, other), ladder_from(total, start, length))

    def test_mixed_where_they_part_late(self):
        slow, fast = ([], [300], 1), ([], [0], 2)
        self.answers(earlier, (slow, fast), (list(range(0, 600, 2)), [600], 1))
        self.answers(later, (slow, fast), (list(range(300, 600)), [600], 2))
        self.answers(earlier, (slow, ([], [0, 0], 3)), mixed(slow, ([], [0, 0], 3), min))
        self.answers(later, (([], [0, 0], 3), slow), mixed(slow, ([], [0, 0], 3), max))
        never = ([], [10 ** 9], 2)
        self.answers(earlier, (never, fast), fast)
        self.answers(later, (fast, never), never)
        self.answers(later, (fast, ([], [10 ** 9, 10 ** 9], 5)), ([], [10 ** 9, 10 ** 9], 5))

    def test_sixty_places(self):
        for seed, size, more, rises in ((118, 60, 40, (60, 40)), (119, 24, 60, (7, 60)), (120, 60, 60, (600, 599)),
                                        (121, 60, 59, (0, 30)), (122, 45, 30, (600, 400)), (123, 60, 59, (60, 59))):
            one, other = sixty(seed, size, rises[0]), sixty(seed + 50, more, rises[1])
            start, length = settled(one, other), together(one, other)[1]
            end = start + 2 * length
            here, there = numbers_of(one, end), numbers_of(other, end)
            for function, choose in ((earlier, min), (later, max), (plus, lambda low, high: low + high)):
                numbers = [choose(low, high) for low, high in zip(here, there)]
                self.answers(function, (one, other), ladder_from(numbers, start, length))
            self.answers(least_ladder, (one,), ladder_least(one))
            gaps_of = [low - high for low, high in zip(here, there)]
            self.answers(first_unlike, (one, other), first(number != 0 for number in gaps_of))
            self.answers(first_less, (one, other), first(number < 0 for number in gaps_of))

    def test_joined_of_sixty_places(self):
        for seed, size, more, rises in ((124, 60, 60, (60, 60)), (125, 60, 20, (30, 600)), (126, 20, 60, (7, 61))):
            one, other = sixty(seed, size, rises[0]), sixty(seed + 50, more, rises[1])
            start, length = len(one[0]), size * more
            while number_of(one, start) < len(other[0]):
                start += 1
            numbers = [number_of(other, number) for number in numbers_of(one, start + 2 * length)]
            self.answers(joined, (one, other), ladder_from(numbers, start, length))

    def test_first_from_and_until(self):
        for ladder in drawn(127, 200):
            if ladder[2] > 0:
                start, length = ladder[1][0] + 1, ladder[2]
                end = start + 2 * length
                days = len(ladder[0]) + len(ladder[1]) * (end + 2)
                numbers = numbers_of(ladder, days)
                reached = [first(told >= number for told in numbers) for number in range(end)]
                passed = [sum(told <= number for told in numbers) for number in range(end)]
                self.answers(first_from, (ladder,), ladder_from(reached, start, length))
                self.answers(until, (ladder,), ladder_from(passed, start, length))

    def test_first_from_and_until_by_hand(self):
        self.answers(first_from, (SAME,), SAME)
        self.answers(until, (SAME,), ([], [1], 1))
        self.answers(first_from, (([], [0], 600),), ([], [0] + [1] * 599, 1))
        self.answers(until, (([], [0], 600),), ([], [1] * 600, 1))
        self.answers(first_from, (([], [0] * 60, 1),), ([], [0], 60))
        self.answers(until, (([], [0] * 60, 1),), ([], [60], 60))
        self.answers(first_from, (([], [9], 1),), ([0] * 9, [0], 1))
        self.answers(until, (([], [2], 1),), ([0], [0], 1))
        self.answers(first_from, (([0, 3], [3, 9], 8),), ladder_from(
            [0, 1, 1, 1] + [3] * 6 + [4] * 2 + [5] * 6 + [6] * 2 + [7] * 6, 4, 8))

    def test_power(self):
        for ladder in drawn(128, 90):
            if len(ladder[1]) <= 5:
                most = 3 if len(ladder[1]) < 4 else 2
                for times in range(most + 1):
                    self.answers(power, (ladder, times), powered(ladder, times))

    def test_power_by_hand(self):
        self.answers(power, (([5, 5], [9], 0), 0), SAME)
        self.answers(power, (ZERO, 1), ZERO)
        self.answers(power, (([0, 1, 2], [3, 4], 2), 12), SAME)
        self.answers(power, (([], [1], 1), 12), ([], [12], 1))
        self.answers(power, (([], [0], 2), 12), ([], [0], 2 ** 12))
        self.answers(power, (([], [1], 2), 12), ([], [2 ** 12 - 1], 2 ** 12))
        self.answers(power, (([], [0, 0], 1), 10), ([], [0] * 1024, 1))
        self.answers(power, (([], [0], 600), 12), ([], [0], 600 ** 12))
        self.answers(power, (([0], [0], 1), 12), ([0] * 12, [0], 1))
        self.answers(power, (([0, 0, 0], [4], 3), 12), ladder_from(
            [0, 0, 0] + [orbit(([0, 0, 0], [4], 3), day, 12)[-1] for day in range(3, 8)], 3, 1))


def mixed(one, other, choose):
    """The ladder of what is chosen of what two tell, reckoned day by day."""
    start, length = settled(one, other), together(one, other)[1]
    end = start + 2 * length
    numbers = [choose(pair) for pair in zip(numbers_of(one, end), numbers_of(other, end))]
    return ladder_from(numbers, start, length)


def first(bits):
    """The index of the first that holds, None if none does."""
    for place, bit in enumerate(bits):
        if bit:
            return place
    return None


def powered(ladder, times):
    """The ladder done so many times, by what becomes of each day."""
    early, turn, rise = ladder
    length = len(turn) ** times
    if rise == 0:
        start = len(early)
    else:
        # Behind this day no step comes back into the beginning.
        start = 0
        while min(orbit(ladder, start, times)) < len(early):
            start += 1
    numbers = [orbit(ladder, day, times)[-1] for day in range(start + 2 * length)]
    return ladder_from(numbers, start, length)


class Compared(Case):
    def test_alike_and_first_unlike(self):
        for one, other in pairs(131, 120):
            start, length = together(one, other)
            end = start + 2 * length
            unlike = first(here != there for here, there in zip(numbers_of(one, end), numbers_of(other, end)))
            self.answers(first_unlike, (one, other), unlike)
            self.answers(alike, (one, other), unlike is None)

    def test_long_rounds_that_agree_long(self):
        for size, more in ((2, 3), (3, 5), (5, 8), (34, 55), (59, 60), (597, 599), (600, 599)):
            here, there = agreeing(size, more)
            one = ([], [sum(here[:day]) for day in range(size)], sum(here))
            other = ([], [sum(there[:day]) for day in range(more)], sum(there))
            self.answers(first_unlike, (one, other), size + more - 1)
            self.answers(first_unlike, (other, one), size + more - 1)
            self.answers(alike, (one, other), False)
            same = ladder_again(one, 17, 1)
            self.answers(first_unlike, (one, same), None)
            self.answers(alike, (same, one), True)

    def test_long_beginnings(self):
        one = ([0] * 599 + [1], [1] * 599 + [2], 1)
        self.answers(first_unlike, (one, ([0] * 599 + [1], [1] * 600, 1)), 1199)
        self.answers(first_unlike, (one, ([0] * 599 + [1], [1] * 599 + [2], 2)), 1200)
        self.answers(first_unlike, (one, ([0] * 599, [1] * 600, 1)), None)
        self.answers(first_unlike, (one, ([], [0] * 599 + [1], 1)), None)
        self.answers(alike, (one, ([], [0] * 599 + [1], 1)), True)
        self.answers(first_unlike, (one, ([], [0] * 599, 1)), 1198)

    def test_far_apart_only_in_the_rise(self):
        self.answers(first_unlike, (([], [0] * 600, 600), ([], [0] * 599, 600)), 599)
        self.answers(first_unlike, (([], [0] * 600, 600), ([], [0] * 600, 599)), 600)
        self.answers(first_unlike, (([3] * 60, [3] * 60, 0), ([], [3] * 59, 0)), None)

    def test_first_less(self):
        for one, other in pairs(134, 120):
            end = settled(one, other) + 2 * together(one, other)[1]
            less = first(here < there for here, there in zip(numbers_of(one, end), numbers_of(other, end)))
            self.answers(first_less, (one, other), less)

    def test_first_less_far(self):
        self.answers(first_less, (([], [10 ** 9], 1), ([], [0], 2)), 10 ** 9 + 1)
        self.answers(first_less, (([], [0], 2), ([], [10 ** 9], 1)), 0)
        self.answers(first_less, (([], [0], 2), ([0], [0], 1)), None)
        self.answers(first_less, (([], [10 ** 9] * 60, 59), ([], [0] * 59, 59)), first_far(60, 59, 59, 59))
        self.answers(first_less, (([], [10 ** 9] * 60, 0), ([], [0] * 59, 1)), 59 * (10 ** 9 + 1))
        self.answers(first_less, (([], [10 ** 9], 1), ([0, 0, 10 ** 9], [10 ** 9 + 1], 1)), None)
        self.answers(first_less, (([], [10 ** 9], 1), ([0, 0, 10 ** 9], [10 ** 9 + 4], 1)), 3)

    def test_apart(self):
        for one, other in pairs(137, 120):
            start, length = together(one, other)
            end = start + 2 * length
            gaps_of = [here - there for here, there in zip(numbers_of(one, end), numbers_of(other, end))]
            gain = Fraction(one[2], len(one[1])) - Fraction(other[2], len(other[1]))
            wanted = (None if gain < 0 else min(gaps_of), None if gain > 0 else max(gaps_of))
            self.answers(apart, (one, other), wanted)

    def test_apart_by_hand(self):
        self.answers(apart, (SAME, SAME), (0, 0))
        self.answers(apart, (SAME, ([], [0], 2)), (None, 0))
        self.answers(apart, (([], [0], 2), SAME), (0, None))
        self.answers(apart, (([9], [9, 9], 2), ([0], [1, 1, 1], 3)), (7, 10))
        self.answers(apart, (([0], [1, 1, 1], 3), ([9], [9, 9], 2)), (-10, -7))
        self.answers(apart, (([], [10 ** 9] * 60, 600), ([], [0] * 59, 590)), spread(60, 59, 600, 590))
        self.answers(apart, (([0], [9], 2), SAME), (0, None))
        self.answers(apart, (([9], [0 + 9], 0), SAME), (None, 9))


def first_far(size, more, rise, gain):
    """Where 10 ** 9 + rise * (d // size) is first less than gain * (d // more), by going back from afar."""
    start = (10 ** 9 // (gain * size - rise * more) - 10) * size * more
    return start + first(10 ** 9 + rise * ((start + day) // size) < gain * ((start + day) // more)
                         for day in range(30 * size * more))


def spread(size, more, rise, gain):
    gaps_of = [10 ** 9 + rise * (day // size) - gain * (day // more) for day in range(size * more)]
    return min(gaps_of), max(gaps_of)


# Each way in which a ladder is none, and what lies just beside it and is one.
WRONG = [
    ([], [], 0), ([], [], 1), ([0], [], 1), ([0, 1], [], 0),
    ([], [-1], 1), ([], [-1, 0], 1), ([-1], [0], 1), ([-1, 0], [0], 0), ([], [-10 ** 40], 1), ([-10 ** 40], [5], 1),
    ([], [0], -1), ([], [5], -1), ([], [5, 5], -10 ** 40), ([0], [9], -1),
    ([1, 0], [1], 1), ([0, 2, 1], [2], 1), ([5, 0, 5], [5], 1), ([10 ** 40, 0], [1], 1),
    ([1], [0], 1), ([0, 3], [2, 4], 5), ([10 ** 40], [10 ** 9], 1),
    ([], [1, 0], 2), ([], [0, 2, 1], 3), ([0], [3, 9, 8], 9), ([], [0, 10 ** 40, 1], 2),
    ([], [0, 1], 0), ([], [0, 3], 2), ([], [0, 2, 5], 4), ([0], [1, 10 ** 40], 600),
]
RIGHT = [
    ([], [0], 0), ([], [0], 1), ([0], [0], 0), ([0, 0], [0, 0], 0), ([], [0, 3], 3), ([], [0, 2, 5], 5),
    ([3], [3, 4], 1), ([0, 10 ** 9], [10 ** 9], 600),
]
ONE = [least_ladder, first_from, until, speed, still]
TWO = [joined, earlier, later, plus, alike, first_unlike, first_less, apart]
NUMBERED = [value, power, settles]


class Refused(Case):
    def test_no_ladders(self):
        for wrong in WRONG:
            for function in ONE:
                self.refuses(function, (wrong,), InvalidLadder, wrong)
            for function in NUMBERED:
                self.refuses(function, (wrong, 0), InvalidLadder, wrong)
            self.refuses(after, (wrong, 0, 0), InvalidLadder, wrong)
            for function in TWO:
                for right in (SAME, ZERO, ([0], [2, 3], 4)):
                    self.refuses(function, (wrong, right), InvalidLadder, wrong)
                    self.refuses(function, (right, wrong), InvalidLadder, wrong)

    def test_the_first_of_two(self):
        chance = random.Random(141)
        for one in WRONG:
            for other in chance.sample(WRONG, 3):
                for function in TWO:
                    self.refuses(function, (one, other), InvalidLadder, one)

    def test_one_list_passed_twice(self):
        numbers = [4, 2]
        self.refuses(least_ladder, ((numbers, numbers, 1),), InvalidLadder, ([4, 2], [4, 2], 1))
        numbers = [3, 3]
        self.refuses(until, ((numbers, numbers, 0),), InvalidLadder, ([3, 3], [3, 3], 0))
        numbers = [4]
        again = least_ladder((numbers, numbers, 1))
        self.told(again, ([4], [4], 1))
        self.apart_from(again, numbers)

    def test_turned_round_without_a_rise(self):
        for ladder in drawn(142, 60, pace="none") + [([0] * 60, [9] * 60, 0)]:
            if ladder[2] == 0:
                self.refuses(first_from, (ladder,), InvalidLadder, ladder)
                self.refuses(until, (ladder,), InvalidLadder, ladder)

    def test_numbers_below_0(self):
        for ladder in drawn(143, 20):
            for number in (-1, -2, -10 ** 30):
                for function in NUMBERED:
                    self.refuses(function, (ladder, number), InvalidNumber, number)
                self.refuses(after, (ladder, number, 0), InvalidNumber, number)
                self.refuses(after, (ladder, 0, number), InvalidNumber, number)
                self.refuses(after, (ladder, number, number - 1), InvalidNumber, number)
                self.refuses(after, (ladder, number - 1, number), InvalidNumber, number - 1)

    def test_a_ladder_that_is_none_comes_first(self):
        for wrong in WRONG:
            for function in NUMBERED:
                self.refuses(function, (wrong, -1), InvalidLadder, wrong)
            self.refuses(after, (wrong, -1, -2), InvalidLadder, wrong)
            self.refuses(after, (wrong, 0, -2), InvalidLadder, wrong)
            self.refuses(after, (wrong, -1, 0), InvalidLadder, wrong)

    def test_what_is_right_is_not_refused(self):
        for ladder in RIGHT:
            self.answers(least_ladder, (ladder,), ladder_least(ladder))
            for function in (speed, still):
                self.ask(function, ladder)
            if ladder[2] > 0 and ladder[1][0] < 100:
                self.ask(first_from, ladder)
                self.ask(until, ladder)
            for function in NUMBERED:
                self.ask(function, ladder, 0)
            self.ask(after, ladder, 0, 0)
            for function in (joined, alike, first_unlike, first_less, apart, plus):
                self.ask(function, ladder, SAME)
                self.ask(function, SAME, ladder)


if __name__ == "__main__":
    unittest.main()
