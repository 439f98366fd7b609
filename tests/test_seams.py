"""What parts tell of one another [11], of sets and ladders; and that what is returned may be passed on."""

import random
import unittest

from ladderdays.days import (both, but, counts, either, every, first_apart, gaps, has, least_set, meeting, moved,
                             next_day, nth_days, others, set_of)
from ladderdays.ladders import (after, alike, apart, earlier, first_from, first_less, first_unlike, joined, later,
                                least_ladder, plus, power, settles, speed, still, until, value)
from tests.plain import Case, draw_ladder, draw_set, ladder_again, set_again

NONE = ([], 0, 1, [])
ALL = ([], 0, 1, [0])
SAME = ([], [0], 1)
NEXT = ([], [1], 1)
PACES = ["none", "slow", "even", "fast"]


def sets(seed, many):
    chance = random.Random(seed)
    return [set_again(draw_set(chance), chance.randint(0, 3), chance.randint(1, 2)) for _ in range(many)]


def ladders(seed, many, *paces):
    chance = random.Random(seed)
    return [ladder_again(draw_ladder(chance, chance.choice(paces or PACES), most_turn=4), chance.randint(0, 3),
                         chance.randint(1, 2)) for _ in range(many)]


class OfSets(Case):
    def test_counts_rise_exactly_on_the_days(self):
        for told in sets(301, 80):
            ladder = counts(told)
            self.assertEqual(value(ladder, 0), 0)
            for day in list(range(20)) + [10 ** 30, 10 ** 30 + 1, 10 ** 30 + 2]:
                self.assertEqual(value(ladder, day + 1) - value(ladder, day), 1 if has(told, day) else 0)

    def test_nth_days_and_counts(self):
        for told in sets(302, 120):
            if told[3]:
                ladder = nth_days(told)
                self.told(first_from(ladder), counts(told))
                for number in list(range(12)) + [10 ** 30]:
                    day = value(ladder, number)
                    self.assertTrue(has(told, day))
                    self.assertEqual(value(counts(told), day), number)
                    self.assertEqual(next_day(told, day), day)
                    self.assertEqual(next_day(told, day + 1), value(ladder, number + 1))
                    self.assertEqual(value(until(ladder), day), number + 1)
                    self.assertEqual(value(until(counts(told)), number), day + 1)
                self.told(joined(ladder, counts(told)), SAME)

    def test_gaps_and_nth_days(self):
        for told in sets(303, 80):
            if told[3]:
                ladder = nth_days(told)
                behind = joined(NEXT, ladder)
                self.told(gaps(told), apart(behind, ladder))

    def test_others(self):
        for told in sets(304, 80):
            self.told(others(others(told)), least_set(told))
            self.told(both(told, others(told)), NONE)
            self.told(either(told, others(told)), ALL)
            self.told(but(told, told), NONE)
            self.told(meeting(told, others(told)), None)
            self.told(first_apart(told, others(told)), 0)
            self.told(plus(counts(told), counts(others(told))), SAME)

    def test_of_two(self):
        for one, other in zip(sets(305, 120), sets(306, 120)):
            self.told(but(one, other), both(one, others(other)))
            self.told(others(either(one, other)), both(others(one), others(other)))
            self.told(either(but(one, other), both(one, other)), least_set(one))
            self.told(both(one, other), both(other, one))
            self.told(either(one, other), either(other, one))
            self.told(meeting(one, other), next_day(both(one, other), 0))
            self.told(first_apart(one, other), next_day(either(but(one, other), but(other, one)), 0))
            self.told(first_apart(one, other) is None, least_set(one) == least_set(other))
            self.told(plus(counts(one), counts(other)), plus(counts(either(one, other)), counts(both(one, other))))
            self.told(alike(counts(one), counts(other)), first_apart(one, other) is None)
            day = first_apart(one, other)
            self.told(first_unlike(counts(one), counts(other)), None if day is None else day + 1)

    def test_moved(self):
        for told in sets(307, 80):
            for days in range(7):
                self.told(moved(moved(told, days), -days), least_set(told))
                self.told(both(told, every(1, days)), moved(moved(told, -days), days))
                self.assertEqual(next_day(moved(told, days), 0), None if next_day(told, 0) is None
                                 else next_day(told, 0) + days)

    def test_every(self):
        for length in range(1, 8):
            for first in range(9):
                told = every(length, first)
                self.told(nth_days(told), least_ladder(([], [first], length)))
                self.told(gaps(told), (length, length))
                self.told(speed(counts(told)), (1, length))
                self.told(next_day(told, 0), first)
                self.told(told, moved(every(length, 0), first))

    def test_set_of(self):
        for told in sets(308, 60):
            if not told[3]:
                self.told(set_of(told[0]), least_set(told))


class OfLadders(Case):
    def test_first_from_and_until_turn_round(self):
        for ladder in ladders(311, 120, "even", "fast"):
            back, count = first_from(ladder), until(ladder)
            for number in list(range(25)) + [10 ** 30]:
                day = value(back, number)
                self.assertGreaterEqual(value(ladder, day), number)
                self.assertTrue(day == 0 or value(ladder, day - 1) < number)
                self.assertEqual(value(count, number), value(back, number + 1))
            self.told(joined(NEXT, back), count)
            self.told(until(back), joined(ladder, NEXT))
            self.told(joined(NEXT, first_from(count)), least_ladder(ladder))

    def test_of_two(self):
        for one, other in zip(ladders(312, 120), ladders(313, 120)):
            self.told(plus(earlier(one, other), later(one, other)), plus(one, other))
            self.told(earlier(one, other), earlier(other, one))
            self.told(later(one, other), later(other, one))
            self.told(first_less(earlier(one, other), later(one, other)), first_unlike(one, other))
            self.told(first_less(later(one, other), one), None)
            self.told(alike(one, other), first_unlike(one, other) is None)
            self.told(alike(one, other), apart(one, other) == (0, 0))
            self.told(alike(one, other), least_ladder(one) == least_ladder(other))
            least, greatest = apart(one, other)
            back = tuple(None if number is None else -number for number in (greatest, least))
            self.told(apart(other, one), back)
            self.told(first_less(one, other) is None, least is not None and least >= 0)
            self.told(first_less(other, one) is None, greatest is not None and greatest <= 0)
            day = first_less(one, other)
            if day is not None:
                self.assertLess(value(one, day), value(other, day))
                self.assertTrue(day == 0 or value(one, day - 1) >= value(other, day - 1))
            day = first_unlike(one, other)
            firsts = [found for found in (first_less(one, other), first_less(other, one)) if found is not None]
            self.told(day, min(firsts, default=None))

    def test_joined_and_power(self):
        for one, other in zip(ladders(314, 80), ladders(315, 80)):
            both_of = joined(one, other)
            for day in list(range(15)) + [10 ** 30]:
                self.assertEqual(value(both_of, day), value(other, value(one, day)))
            self.told(joined(one, SAME), least_ladder(one))
            self.told(joined(SAME, one), least_ladder(one))
            self.told(power(one, 0), SAME)
            self.told(power(one, 1), least_ladder(one))
            self.told(power(one, 2), joined(one, one))
            self.told(power(one, 3), joined(joined(one, one), one))
            above, below = speed(one)
            over, under = speed(other)
            self.assertEqual(speed(both_of)[0] * below * under, speed(both_of)[1] * above * over)

    def test_after_and_power(self):
        for ladder in ladders(316, 60):
            for times in range(4):
                done = power(ladder, times)
                for day in list(range(10)) + [10 ** 30, 10 ** 30 + 1]:
                    self.assertEqual(after(ladder, day, times), value(done, day))

    def test_after_in_parts(self):
        for ladder in ladders(317, 60, "none", "slow", "even"):
            for day in (0, 4, 11, 10 ** 30 + 5):
                for one, other in ((1, 1), (2, 10 ** 30), (10 ** 30, 7), (10 ** 29, 10 ** 30)):
                    self.assertEqual(after(ladder, after(ladder, day, one), other), after(ladder, day, one + other))

    def test_settles_and_after(self):
        for ladder in ladders(318, 120):
            for day in list(range(10)) + [10 ** 30, 10 ** 30 + 1, 10 ** 31]:
                found = settles(ladder, day)
                if found is None:
                    self.assertGreater(ladder[2], len(ladder[1]))
                    continue
                times, length, shift = found
                for more in (0, 1, length):
                    self.assertEqual(after(ladder, day, times + more + length),
                                     after(ladder, day, times + more) + shift)
                if times > 0:
                    self.assertNotEqual(after(ladder, day, times - 1 + length), after(ladder, day, times - 1) + shift)

    def test_still(self):
        for ladder in ladders(319, 120):
            kept = still(ladder)
            for day in range(30):
                self.assertEqual(has(kept, day), value(ladder, day) == day)
                self.assertEqual(has(kept, day), settles(ladder, day) == (0, 1, 0))
                self.assertEqual(has(kept, day), after(ladder, day, 12) == day)

    def test_sets_that_stay_far_are_asked(self):
        kept = still(([0, 1], [10 ** 9, 10 ** 9], 1))
        self.told(kept, ([0, 1, 2 * 10 ** 9 - 3, 2 * 10 ** 9 - 2], 2 * 10 ** 9 - 1, 1, []))
        self.told(next_day(kept, 2), 2 * 10 ** 9 - 3)
        self.told(least_set(kept), kept)
        self.told(gaps(kept), (1, 2 * 10 ** 9 - 4))
        self.told(meeting(kept, every(2, 1)), 1)


class PassedOn(Case):
    def test_long_ladders(self):
        long = power(([], [0, 0], 1), 10)
        self.told(long, ([], [0] * 1024, 1))
        self.told(until(long), ([], [1024], 1024))
        self.told(first_from(long), ([], [0], 1024))
        self.told(joined(first_from(long), long), SAME)
        self.told(value(joined(long, ([], [0], 1024)), 10 ** 30), 10 ** 30 // 1024 * 1024)
        self.told(first_unlike(long, ([], [0] * 1023, 1)), 1023)
        self.told(still(long), ([0], 1, 1, []))
        self.told(settles(long, 10 ** 30), (10, 1, 0))
        self.told(speed(plus(long, SAME)), (1025, 1024))

    def test_great_numbers(self):
        great = power(([], [1], 600), 12)
        start = sum(600 ** times for times in range(12))
        self.told(great, ([], [start], 600 ** 12))
        self.told(value(great, 10 ** 31), start + 600 ** 12 * 10 ** 31)
        self.told(plus(great, great), ([], [2 * start], 2 * 600 ** 12))
        self.told(apart(great, SAME), (start, None))
        self.told(still(great), NONE)
        self.told(settles(great, 0), None)
        self.told(first_less(([], [start], 1), great), 1)

    def test_long_sets(self):
        told = both(every(40, 0), every(49, 1))
        self.told(told, ([], 0, 1960, [1520]))
        self.told(others(others(told)), told)
        self.told(next_day(told, 10 ** 30), 1520 + 1960 * -(-(10 ** 30 - 1520) // 1960))
        self.told(nth_days(told), ([], [1520], 1960))
        self.told(counts(told), ([], [0] * 1521 + [1] * 439, 1))
        self.told(first_apart(told, every(1960, 1520)), None)
        self.told(gaps(others(told)), (1, 2))
        self.told(meeting(told, others(told)), None)


if __name__ == "__main__":
    unittest.main()
