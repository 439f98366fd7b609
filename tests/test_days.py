"""Sets of days [6], and the section `ladderdays/days.py`."""

import random
import unittest
from math import lcm

from ladderdays.days import (both, but, counts, either, every, first_apart, gaps, has, least_set, meeting, moved,
                             next_day, nth_days, others, set_of)
from ladderdays.errors import InvalidNumber, InvalidSet, NoDays
from tests.plain import (Case, agreeing, days_of, draw_set, ladder_from, set_again, set_from, set_least)

NONE = ([], 0, 1, [])
ALL = ([], 0, 1, [0])
FAR = [10 ** 30, 10 ** 30 + 1, 10 ** 30 + 17, 3 * 10 ** 30 + 7, 10 ** 31]


def drawn(seed, many, **limits):
    """Some sets, each in its own way, at times in a longer one than needed."""
    chance = random.Random(seed)
    made = [NONE, ALL, ([], 0, 6, []), ([], 5, 4, []), ([0], 1, 1, []), ([2, 5], 6, 1, []), ([0, 1, 2], 3, 1, [0]),
            ([0, 1, 2], 3, 1, []), ([3], 9, 3, []), ([0, 3], 6, 3, [0]), ([0, 2, 4], 6, 4, [0, 2]), ([], 7, 3, [0])]
    while len(made) < many:
        told = draw_set(chance, **limits)
        if chance.random() < 0.5:
            told = set_again(told, chance.randint(0, 5), chance.randint(1, 3))
        made.append(told)
    return made


def pairs(seed, many, **limits):
    """Pairs of sets, among them alike ones told in two ways."""
    chance = random.Random(seed)
    made = drawn(seed + 1, many, **limits)
    others_of = drawn(seed + 2, many, **limits)
    chance.shuffle(others_of)
    alike = [(told, set_again(told, chance.randint(0, 4), chance.randint(1, 3))) for told in made[:many // 4]]
    return list(zip(made, others_of)) + alike + [(other, one) for one, other in alike]


def shared(one, other):
    first, length = max(one[1], other[1]), lcm(one[2], other[2])
    return first, length, first + 2 * length


def merged(one, other, choose):
    """The set, in its least way, of the days that are chosen by whether two sets have them."""
    first, length, end = shared(one, other)
    bits = [choose(here, there) for here, there in zip(days_of(one, end), days_of(other, end))]
    return set_from(bits, first, length)


class Asked(Case):
    def test_has(self):
        for told in drawn(1, 60):
            for day, bit in enumerate(days_of(told, told[1] + 2 * told[2] + 2)):
                self.answers(has, (told, day), bit)

    def test_has_far(self):
        for told in drawn(2, 60):
            bits = days_of(told, told[1] + told[2])
            for day in FAR:
                self.answers(has, (told, day), bits[told[1] + (day - told[1]) % told[2]])

    def test_next_day(self):
        for told in drawn(3, 60):
            end = told[1] + 2 * told[2] + 2
            bits = days_of(told, end + told[2])
            for day in range(end):
                later = [late for late in range(day, end + told[2]) if bits[late]]
                self.answers(next_day, (told, day), later[0] if later else None)

    def test_next_day_far(self):
        for told in drawn(4, 60):
            bits = days_of(told, told[1] + 2 * told[2])
            for day in FAR:
                near = told[1] + (day - told[1]) % told[2]
                later = [late for late in range(near, near + told[2]) if bits[late]]
                self.answers(next_day, (told, day), day - near + later[0] if later else None)

    def test_next_day_is_none_just_behind_an_end(self):
        told = ([2, 5], 6, 1, [])
        self.assertEqual([next_day(told, day) for day in range(8)], [2, 2, 2, 5, 5, 5, None, None])
        self.assertEqual(next_day(([], 3, 600, []), 0), None)
        self.assertEqual(next_day(NONE, 10 ** 31), None)
        self.assertEqual(next_day(([], 9, 600, [599]), 10), 608)

    def test_six_hundred_places(self):
        chance = random.Random(5)
        for _ in range(4):
            early = sorted(chance.sample(range(600), 300))
            found = sorted(chance.sample(range(600), 250))
            told = (early, 600, 600, found)
            bits = days_of(told, 2400)
            for day in chance.sample(range(1800), 40):
                self.answers(has, (told, day), bits[day])
                self.answers(next_day, (told, day), bits.index(True, day))
            for place in found[:20]:
                day = 600 + place + 600 * 10 ** 28
                self.answers(has, (told, day), True)
                self.answers(next_day, (told, day), day)
            self.answers(least_set, (told,), set_least(told))

    def test_far_sets(self):
        # The days that stay may lie anywhere, and what is told of them is asked.
        far = ([3, 10 ** 9], 10 ** 9 + 1, 1, [])
        self.answers(has, (far, 10 ** 9), True)
        self.answers(has, (far, 10 ** 9 - 1), False)
        self.answers(next_day, (far, 4), 10 ** 9)
        self.answers(next_day, (far, 10 ** 9 + 1), None)
        self.answers(least_set, (([3, 10 ** 9], 10 ** 9 + 60, 7, []),), far)
        self.answers(gaps, (far,), (10 ** 9 - 3, 10 ** 9 - 3))
        self.answers(moved, (far, -4), ([10 ** 9 - 4], 10 ** 9 - 3, 1, []))
        self.answers(both, (far, every(2, 0)), ([10 ** 9], 10 ** 9 + 1, 1, []))
        self.answers(both, (every(2, 1), far), ([3], 4, 1, []))
        self.answers(but, (far, every(2, 0)), ([3], 4, 1, []))
        self.answers(either, (far, set_of([5])), ([3, 5, 10 ** 9], 10 ** 9 + 1, 1, []))
        self.answers(meeting, (far, every(7, 6)), 10 ** 9)
        self.answers(first_apart, (far, set_of([3])), 10 ** 9)
        self.answers(first_apart, (far, ([3, 10 ** 9], 10 ** 9 + 9, 5, [])), None)
        self.answers(set_of, ([10 ** 31, 4, 10 ** 31],), ([4, 10 ** 31], 10 ** 31 + 1, 1, []))


class Made(Case):
    def test_least_set(self):
        for told in drawn(11, 250):
            self.answers(least_set, (told,), set_least(told))

    def test_least_set_of_other_ways(self):
        chance = random.Random(12)
        for told in drawn(13, 80):
            wanted = set_least(told)
            for _ in range(3):
                again = set_again(wanted, chance.randint(0, 9), chance.randint(1, 4))
                self.answers(least_set, (again,), wanted)
            self.answers(least_set, (wanted,), wanted)

    def test_least_first_comes_before_least_length(self):
        self.answers(least_set, (([0], 5, 10, [0, 5]),), ([], 0, 5, [0]))
        self.answers(least_set, (([0, 1], 2, 4, [0, 1, 2, 3]),), ALL)
        self.answers(least_set, (([0, 1], 3, 4, [0, 1, 2, 3]),), ([0, 1], 3, 1, [0]))
        self.answers(least_set, (([], 9, 4, []),), NONE)
        self.answers(least_set, (([4], 9, 4, []),), ([4], 5, 1, []))
        self.answers(least_set, (([], 0, 12, [0, 2, 6, 8]),), ([], 0, 6, [0, 2]))
        self.answers(least_set, (([], 0, 30, [4, 9, 14, 19, 24, 29]),), ([], 0, 5, [4]))
        self.answers(least_set, (([], 600, 600, list(range(600))),), ([], 600, 1, [0]))
        self.answers(least_set, ((list(range(600)), 600, 600, list(range(600))),), ALL)

    def test_least_set_of_six_hundred(self):
        for size in (1, 2, 3, 5, 8, 12, 30, 120, 200, 300, 600):
            told = ([], 0, size, [0])
            self.answers(least_set, (set_again(told, 600, 600 // size),), told)

    def test_set_of(self):
        chance = random.Random(14)
        self.answers(set_of, ([],), NONE)
        self.answers(set_of, ([0],), ([0], 1, 1, []))
        self.answers(set_of, ([1, 0, 1, 0],), ([0, 1], 2, 1, []))
        for _ in range(60):
            days = [chance.randint(0, 30) for _ in range(chance.randint(1, 12))]
            wanted = [day for day in range(31) if day in days]
            self.answers(set_of, (days,), (wanted, wanted[-1] + 1, 1, []))

    def test_every(self):
        for length in range(1, 13):
            for first in range(30):
                bits = [day >= first and (day - first) % length == 0 for day in range(first + 2 * length)]
                self.answers(every, (length, first), set_from(bits, first, length))
        self.answers(every, (600, 600), ([], 1, 600, [599]))
        self.answers(every, (600, 599), ([], 0, 600, [599]))
        self.answers(every, (1, 600), ([], 600, 1, [0]))

    def test_both(self):
        for one, other in pairs(15, 150):
            self.answers(both, (one, other), merged(one, other, lambda here, there: here and there))

    def test_either(self):
        for one, other in pairs(18, 150):
            self.answers(either, (one, other), merged(one, other, lambda here, there: here or there))

    def test_but(self):
        for one, other in pairs(21, 150):
            self.answers(but, (one, other), merged(one, other, lambda here, there: here and not there))

    def test_others(self):
        for told in drawn(24, 150):
            self.answers(others, (told,), merged(told, NONE, lambda here, there: not here))

    def test_sixty_places(self):
        chance = random.Random(25)
        for size, more in ((60, 59), (60, 60), (60, 48), (59, 30), (60, 1)):
            one = ([day for day in range(60) if chance.random() < 0.5], 60, size,
                   [place for place in range(size) if chance.random() < 0.5])
            other = ([day for day in range(37) if chance.random() < 0.5], 37, more,
                     [place for place in range(more) if chance.random() < 0.5])
            self.answers(both, (one, other), merged(one, other, lambda here, there: here and there))
            self.answers(either, (one, other), merged(one, other, lambda here, there: here or there))
            self.answers(but, (one, other), merged(one, other, lambda here, there: here and not there))
            self.answers(others, (one,), merged(one, NONE, lambda here, there: not here))

    def test_moved(self):
        for told in drawn(26, 60):
            for days in list(range(-16, 8)) + [600, -600, 60, -60]:
                first, length = max(0, told[1] + days), told[2]
                end = first + 2 * length
                bits = days_of(told, max(end - days, 0) + 1)
                wanted = [day >= days and bits[day - days] for day in range(end)]
                self.answers(moved, (told, days), set_from(wanted, first, length))

    def test_moved_to_below_0_and_back(self):
        self.answers(moved, (every(3, 0), -1), ([], 0, 3, [2]))
        self.answers(moved, (every(3, 0), 4), ([], 2, 3, [2]))
        self.answers(moved, (set_of([2, 5]), -3), ([2], 3, 1, []))
        self.answers(moved, (set_of([2, 5]), -6), NONE)
        self.answers(moved, (NONE, -600), NONE)
        self.answers(moved, (ALL, -600), ALL)
        self.answers(moved, (ALL, 3), ([], 3, 1, [0]))


class Compared(Case):
    def test_first_apart(self):
        for one, other in pairs(31, 250):
            end = shared(one, other)[2]
            unlike = [day for day, (here, there) in enumerate(zip(days_of(one, end), days_of(other, end)))
                      if here != there]
            self.answers(first_apart, (one, other), unlike[0] if unlike else None)

    def test_first_apart_of_long_rounds_that_agree_long(self):
        for size, more in ((2, 3), (3, 5), (5, 8), (34, 55), (59, 60), (597, 599), (600, 599)):
            here, there = agreeing(size, more)
            one = ([], 0, size, [place for place in range(size) if here[place]])
            other = ([], 0, more, [place for place in range(more) if there[place]])
            self.answers(first_apart, (one, other), size + more - 2)
            self.answers(first_apart, (other, one), size + more - 2)
            same = ([day for day in range(17) if here[day % size]], 17, size,
                    sorted((place - 17) % size for place in range(size) if here[place]))
            self.answers(first_apart, (one, same), None)

    def test_first_apart_of_long_beginnings(self):
        one = ([599], 600, 600, [0])
        self.answers(first_apart, (one, ([599], 600, 600, [0, 599])), 1199)
        self.answers(first_apart, (one, ([599], 600, 599, [0])), 1199)
        self.answers(first_apart, (one, ([598, 599], 600, 600, [0])), 598)
        self.answers(first_apart, (one, NONE), 599)
        self.answers(first_apart, (NONE, one), 599)
        self.answers(first_apart, (NONE, ([], 600, 600, [599])), 1199)
        self.answers(first_apart, (([], 600, 600, []), ([], 13, 599, [])), None)

    def test_first_apart_of_a_short_one_and_one_with_a_long_beginning(self):
        whole = list(range(600))
        for first in (1, 2, 7, 60, 600):
            for again, wanted in (([0, 1], first + 2), ([0], first + 1), ([1, 2], first), ([0, 1, 2], None)):
                long = (whole[:first], first, 3, again)
                for short in (ALL, ([], 0, 2, [0, 1]), ([0], 1, 1, [0])):
                    self.answers(first_apart, (long, short), wanted)
                    self.answers(first_apart, (short, long), wanted)

    def test_meeting(self):
        for one, other in pairs(32, 250):
            end = shared(one, other)[2]
            common = [day for day, (here, there) in enumerate(zip(days_of(one, end), days_of(other, end)))
                      if here and there]
            self.answers(meeting, (one, other), common[0] if common else None)

    def test_meeting_of_long_rounds(self):
        self.answers(meeting, (every(600, 1), every(599, 0)), 599 * 599)
        self.answers(meeting, (every(600, 599), every(599, 598)), 600 * 599 - 1)
        self.answers(meeting, (([], 0, 600, list(range(0, 600, 2))), ([], 0, 598, list(range(1, 598, 2)))), None)
        self.answers(meeting, (([7], 600, 600, list(range(0, 600, 2))), ([7], 600, 598, list(range(1, 598, 2)))), 7)
        self.answers(meeting, (NONE, ALL), None)
        self.answers(meeting, (ALL, set_of([600])), 600)


class Counted(Case):
    def test_counts(self):
        for told in drawn(41, 150):
            bits = days_of(told, told[1] + 2 * told[2])
            numbers = [sum(bits[:day]) for day in range(len(bits) + 1)]
            self.answers(counts, (told,), ladder_from(numbers, told[1], told[2]))

    def test_counts_by_hand(self):
        self.answers(counts, (NONE,), ([], [0], 0))
        self.answers(counts, (ALL,), ([], [0], 1))
        self.answers(counts, (set_of([2, 5]),), ([0, 0, 0, 1, 1, 1], [2], 0))

    def test_nth_days(self):
        for told in drawn(42, 150):
            if told[3]:
                days = [day for day, bit in enumerate(days_of(told, told[1] + 2 * told[2])) if bit]
                start = len(days) - 2 * len(told[3])
                self.answers(nth_days, (told,), ladder_from(days, start, len(told[3])))

    def test_gaps(self):
        for told in drawn(43, 200):
            days = [day for day, bit in enumerate(days_of(told, told[1] + 3 * told[2])) if bit]
            if told[3] or len(days) > 1:
                distances = [late - soon for soon, late in zip(days, days[1:])]
                self.answers(gaps, (told,), (min(distances), max(distances)))

    def test_gaps_by_hand(self):
        self.answers(gaps, (ALL,), (1, 1))
        self.answers(gaps, (([], 0, 10, [0, 3]),), (3, 7))
        self.answers(gaps, (([], 0, 10, [0, 8]),), (2, 8))
        self.answers(gaps, (([0], 30, 10, [4]),), (10, 34))
        self.answers(gaps, (([0, 1], 30, 10, []),), (1, 1))
        self.answers(gaps, (([], 30, 600, [7]),), (600, 600))

    def test_sixty(self):
        chance = random.Random(44)
        told = (sorted(chance.sample(range(60), 31)), 60, 60, sorted(chance.sample(range(60), 29)))
        bits = days_of(told, 240)
        days = [day for day in range(240) if bits[day]]
        self.answers(counts, (told,), ladder_from([sum(bits[:day]) for day in range(240)], 60, 60))
        self.answers(nth_days, (told,), ladder_from(days, 31, 29))


# Each way in which a set is none, and what lies just beside it and is one.
WRONG = [
    ([], -1, 1, []), ([], -1, 3, [0]), ([], -10 ** 40, 1, []), ([-2], -1, 1, []),
    ([], 0, 0, []), ([], 0, -1, []), ([], 4, -10 ** 40, []), ([1], 4, 0, []),
    ([0], 0, 1, []), ([3], 3, 1, []), ([4], 3, 1, []), ([0, 10 ** 40], 3, 1, [0]),
    ([-1], 3, 1, []), ([-1, 0], 3, 1, []), ([-10 ** 40], 3, 1, []),
    ([1, 0], 3, 1, []), ([1, 1], 3, 1, []), ([0, 2, 1], 3, 1, []), ([2, 0, 1], 3, 2, [0]),
    ([], 0, 1, [1]), ([], 0, 3, [3]), ([], 0, 3, [0, 4]), ([], 0, 3, [10 ** 40]),
    ([], 0, 3, [-1]), ([], 0, 3, [-1, 0]), ([0], 1, 3, [-10 ** 40]),
    ([], 0, 3, [1, 0]), ([], 0, 3, [1, 1]), ([], 0, 3, [0, 2, 1]), ([], 2, 9, [8, 0]),
    ([], 0, 0, [0]), ([0, 1, 2], 2, 3, [0]),
]
RIGHT = [
    ([], 0, 1, []), ([], 0, 1, [0]), ([0], 1, 1, []), ([2], 3, 1, []), ([0, 1, 2], 3, 1, [0]), ([], 7, 1, []),
    ([], 0, 3, [2]), ([], 0, 3, [0, 1, 2]), ([0, 2], 3, 3, [0, 2]), ([0], 10 ** 9 + 1, 1, []),
]
ONE = [least_set, others, counts, nth_days, gaps]
TWO = [both, either, but, first_apart, meeting]


class Refused(Case):
    def test_no_sets(self):
        for wrong in WRONG:
            for function in ONE:
                self.refuses(function, (wrong,), InvalidSet, wrong)
            self.refuses(has, (wrong, 0), InvalidSet, wrong)
            self.refuses(next_day, (wrong, 0), InvalidSet, wrong)
            self.refuses(moved, (wrong, 0), InvalidSet, wrong)
            self.refuses(moved, (wrong, -3), InvalidSet, wrong)
            for function in TWO:
                for right in (NONE, ALL, ([1], 3, 4, [2])):
                    self.refuses(function, (wrong, right), InvalidSet, wrong)
                    self.refuses(function, (right, wrong), InvalidSet, wrong)

    def test_the_first_of_two(self):
        chance = random.Random(51)
        for one in WRONG:
            for other in chance.sample(WRONG, 3):
                for function in TWO:
                    self.refuses(function, (one, other), InvalidSet, one)

    def test_one_list_passed_twice(self):
        days = [0, 5]
        for function in ONE:
            self.refuses(function, ((days, 3, 4, days),), InvalidSet, ([0, 5], 3, 4, [0, 5]))
        days = [0, 1]
        again = least_set((days, 3, 4, days))
        self.told(again, ([0, 1], 2, 4, [1, 2]))
        self.apart_from(again, days)

    def test_days_below_0(self):
        for told in drawn(52, 20):
            for day in (-1, -2, -10 ** 30):
                self.refuses(has, (told, day), InvalidNumber, day)
                self.refuses(next_day, (told, day), InvalidNumber, day)

    def test_a_set_that_is_none_comes_first(self):
        for wrong in WRONG:
            self.refuses(has, (wrong, -1), InvalidSet, wrong)
            self.refuses(next_day, (wrong, -1), InvalidSet, wrong)

    def test_set_of(self):
        self.refuses(set_of, ([3, -2, 4, -7],), InvalidNumber, -2)
        self.refuses(set_of, ([-7, -9],), InvalidNumber, -7)
        self.refuses(set_of, ([0, 0, -1],), InvalidNumber, -1)
        self.refuses(set_of, ([5, 10 ** 31, -10 ** 31, -1],), InvalidNumber, -10 ** 31)

    def test_every(self):
        self.refuses(every, (0, 0), InvalidNumber, 0)
        self.refuses(every, (0, 5), InvalidNumber, 0)
        self.refuses(every, (-4, 0), InvalidNumber, -4)
        self.refuses(every, (1, -1), InvalidNumber, -1)
        self.refuses(every, (60, -7), InvalidNumber, -7)
        self.refuses(every, (0, -1), InvalidNumber, 0)
        self.refuses(every, (-2, -3), InvalidNumber, -2)

    def test_no_days(self):
        for told in drawn(53, 80) + [([4], 9, 4, []), ([10 ** 9], 10 ** 9 + 3, 2, [])]:
            if not told[3]:
                self.refuses(nth_days, (told,), NoDays, told)
                if len(told[0]) < 2:
                    self.refuses(gaps, (told,), NoDays, told)

    def test_what_is_right_is_not_refused(self):
        for told in RIGHT:
            self.answers(least_set, (told,), ended_or_least(told))
            for function in (has, next_day):
                self.ask(function, told, 0)
            for function in TWO:
                if told[1] < 100:
                    self.ask(function, told, ([], 0, 2, [0]))
                    self.ask(function, ([], 0, 2, [0]), told)
            for days in (-700, -1, 0, 1, 700):
                self.ask(moved, told, days)
        self.ask(every, 1, 0)
        self.ask(set_of, [0])
        self.ask(gaps, ([0, 1], 2, 1, []))
        self.ask(gaps, ([], 0, 1, [0]))
        self.ask(nth_days, ([], 0, 1, [0]))


def ended_or_least(told):
    if told[1] < 100:
        return set_least(told)
    return told[0], told[0][-1] + 1, 1, []


if __name__ == "__main__":
    unittest.main()
