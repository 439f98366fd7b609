"""What parts tell of one another [11], of sets, ladders, calendars, feasts and terms; and that what is returned may
be passed on."""

import random
import unittest

from ladderdays.calendars import Calendar
from ladderdays.days import (both, but, counts, either, every, first_apart, gaps, has, least_set, meeting, moved,
                             next_day, nth_days, others, set_of)
from ladderdays.ladders import (after, alike, apart, earlier, first_from, first_less, first_unlike, joined, later,
                                least_ladder, plus, power, settles, speed, still, until, value)
from ladderdays.feasts import Almanac, busiest, days_of, distances, needless, never_meeting
from ladderdays.terms import (due, first_later, ladder_of, last_start, needless_steps, never_later, passing, shortest,
                              slack, spread)
from tests.plain import Case, draw_ladder, draw_set, ladder_again, set_again
from tests.reckon import draw_feast, draw_feasts, draw_term, draw_years

NONE = ([], 0, 1, [])
ALL = ([], 0, 1, [0])
SAME = ([], [0], 1)
NEXT = ([], [1], 1)
PACES = ["none", "slow", "even", "fast"]


def sets(seed, many):
    chance = random.Random(seed)
    return [set_again(draw_set(chance), chance.randint(0, 3), chance.randint(1, 2)) for _ in range(many)]


def ladders(seed, many, *paces):
    chance = random.Random(seed)
    return [ladder_again(draw_ladder(chance, chance.choice(paces or PACES), most_turn=4), chance.randint(0, 3),
                         chance.randint(1, 2)) for _ in range(many)]


def calendars(seed, many):
    chance = random.Random(seed)
    return [Calendar(draw_years(chance)) for _ in range(many)]


def almanacs(seed, many):
    """Almanacs, with some feasts for each."""
    chance = random.Random(seed)
    for calendar in [Calendar(draw_years(chance, 3, 2, 3)) for _ in range(many)]:
        feasts = draw_feasts(chance, chance.randint(1, 4))
        names = [name for name, _ in feasts]
        yield Almanac(calendar, feasts), [draw_feast(chance, names, 2) for _ in range(3)]


def terms(seed, many):
    """Almanacs, with three terms and an endless feast for each."""
    chance = random.Random(seed)
    for almanac, feasts in almanacs(seed, many):
        endless = [feast for feast in feasts if days_of(almanac, feast)[3]] + [("starts",)]
        yield almanac, [draw_term(chance, endless, 1, 3) for _ in range(3)], endless[0]


class OfSets(Case):
    def test_counts_rise_exactly_on_the_days(self):
        for told in sets(301, 80):
            ladder = counts(told)
            self.assertEqual(value(ladder, 0), 0)
            for day in list(range(20)) + [10 ** 30, 10 ** 30 + 1, 10 ** 30 + 2]:
                self.assertEqual(value(ladder, day + 1) - value(ladder, day), 1 if has(told, day) else 0)

    def test_nth_days_and_counts(self):
        for told in sets(302, 120):
            if told[3]:
                ladder = nth_days(told)
                self.told(first_from(ladder), counts(told))
                for number in list(range(12)) + [10 ** 30]:
                    day = value(ladder, number)
                    self.assertTrue(has(told, day))
                    self.assertEqual(value(counts(told), day), number)
                    self.assertEqual(next_day(told, day), day)
                    self.assertEqual(next_day(told, day + 1), value(ladder, number + 1))
                    self.assertEqual(value(until(ladder), day), number + 1)
                    self.assertEqual(value(until(counts(told)), number), day + 1)
                self.told(joined(ladder, counts(told)), SAME)

    def test_gaps_and_nth_days(self):
        for told in sets(303, 80):
            if told[3]:
                ladder = nth_days(told)
                behind = joined(NEXT, ladder)
                self.told(gaps(told), apart(behind, ladder))

    def test_others(self):
        for told in sets(304, 80):
            self.told(others(others(told)), least_set(told))
            self.told(both(told, others(told)), NONE)
            self.told(either(told, others(told)), ALL)
            self.told(but(told, told), NONE)
            self.told(meeting(told, others(told)), None)
            self.told(first_apart(told, others(told)), 0)
            self.told(plus(counts(told), counts(others(told))), SAME)

    def test_of_two(self):
        for one, other in zip(sets(305, 120), sets(306, 120)):
            self.told(but(one, other), both(one, others(other)))
            self.told(others(either(one, other)), both(others(one), others(other)))
            self.told(either(but(one, other), both(one, other)), least_set(one))
            self.told(both(one, other), both(other, one))
            self.told(either(one, other), either(other, one))
            self.told(meeting(one, other), next_day(both(one, other), 0))
            self.told(first_apart(one, other), next_day(either(but(one, other), but(other, one)), 0))
            self.told(first_apart(one, other) is None, least_set(one) == least_set(other))
            self.told(plus(counts(one), counts(other)), plus(counts(either(one, other)), counts(both(one, other))))
            self.told(alike(counts(one), counts(other)), first_apart(one, other) is None)
            day = first_apart(one, other)
            self.told(first_unlike(counts(one), counts(other)), None if day is None else day + 1)

    def test_moved(self):
        for told in sets(307, 80):
            for days in range(7):
                self.told(moved(moved(told, days), -days), least_set(told))
                self.told(both(told, every(1, days)), moved(moved(told, -days), days))
                self.assertEqual(next_day(moved(told, days), 0), None if next_day(told, 0) is None
                                 else next_day(told, 0) + days)

    def test_every(self):
        for length in range(1, 8):
            for first in range(9):
                told = every(length, first)
                self.told(nth_days(told), least_ladder(([], [first], length)))
                self.told(gaps(told), (length, length))
                self.told(speed(counts(told)), (1, length))
                self.told(next_day(told, 0), first)
                self.told(told, moved(every(length, 0), first))

    def test_set_of(self):
        for told in sets(308, 60):
            if not told[3]:
                self.told(set_of(told[0]), least_set(told))


class OfLadders(Case):
    def test_first_from_and_until_turn_round(self):
        for ladder in ladders(311, 120, "even", "fast"):
            back, count = first_from(ladder), until(ladder)
            for number in list(range(25)) + [10 ** 30]:
                day = value(back, number)
                self.assertGreaterEqual(value(ladder, day), number)
                self.assertTrue(day == 0 or value(ladder, day - 1) < number)
                self.assertEqual(value(count, number), value(back, number + 1))
            self.told(joined(NEXT, back), count)
            self.told(until(back), joined(ladder, NEXT))
            self.told(joined(NEXT, first_from(count)), least_ladder(ladder))

    def test_of_two(self):
        for one, other in zip(ladders(312, 120), ladders(313, 120)):
            self.told(plus(earlier(one, other), later(one, other)), plus(one, other))
            self.told(earlier(one, other), earlier(other, one))
            self.told(later(one, other), later(other, one))
            self.told(first_less(earlier(one, other), later(one, other)), first_unlike(one, other))
            self.told(first_less(later(one, other), one), None)
            self.told(alike(one, other), first_unlike(one, other) is None)
            self.told(alike(one, other), apart(one, other) == (0, 0))
            self.told(alike(one, other), least_ladder(one) == least_ladder(other))
            least, greatest = apart(one, other)
            back = tuple(None if number is None else -number for number in (greatest, least))
            self.told(apart(other, one), back)
            self.told(first_less(one, other) is None, least is not None and least >= 0)
            self.told(first_less(other, one) is None, greatest is not None and greatest <= 0)
            day = first_less(one, other)
            if day is not None:
                self.assertLess(value(one, day), value(other, day))
                self.assertTrue(day == 0 or value(one, day - 1) >= value(other, day - 1))
            day = first_unlike(one, other)
            firsts = [found for found in (first_less(one, other), first_less(other, one)) if found is not None]
            self.told(day, min(firsts, default=None))

    def test_joined_and_power(self):
        for one, other in zip(ladders(314, 80), ladders(315, 80)):
            both_of = joined(one, other)
            for day in list(range(15)) + [10 ** 30]:
                self.assertEqual(value(both_of, day), value(other, value(one, day)))
            self.told(joined(one, SAME), least_ladder(one))
            self.told(joined(SAME, one), least_ladder(one))
            self.told(power(one, 0), SAME)
            self.told(power(one, 1), least_ladder(one))
            self.told(power(one, 2), joined(one, one))
            self.told(power(one, 3), joined(joined(one, one), one))
            above, below = speed(one)
            over, under = speed(other)
            self.assertEqual(speed(both_of)[0] * below * under, speed(both_of)[1] * above * over)

    def test_after_and_power(self):
        for ladder in ladders(316, 60):
            for times in range(4):
                done = power(ladder, times)
                for day in list(range(10)) + [10 ** 30, 10 ** 30 + 1]:
                    self.assertEqual(after(ladder, day, times), value(done, day))

    def test_after_in_parts(self):
        for ladder in ladders(317, 60, "none", "slow", "even"):
            for day in (0, 4, 11, 10 ** 30 + 5):
                for one, other in ((1, 1), (2, 10 ** 30), (10 ** 30, 7), (10 ** 29, 10 ** 30)):
                    self.assertEqual(after(ladder, after(ladder, day, one), other), after(ladder, day, one + other))

    def test_settles_and_after(self):
        for ladder in ladders(318, 120):
            for day in list(range(10)) + [10 ** 30, 10 ** 30 + 1, 10 ** 31]:
                found = settles(ladder, day)
                if found is None:
                    self.assertGreater(ladder[2], len(ladder[1]))
                    continue
                times, length, shift = found
                for more in (0, 1, length):
                    self.assertEqual(after(ladder, day, times + more + length),
                                     after(ladder, day, times + more) + shift)
                if times > 0:
                    self.assertNotEqual(after(ladder, day, times - 1 + length), after(ladder, day, times - 1) + shift)

    def test_still(self):
        for ladder in ladders(319, 120):
            kept = still(ladder)
            for day in range(30):
                self.assertEqual(has(kept, day), value(ladder, day) == day)
                self.assertEqual(has(kept, day), settles(ladder, day) == (0, 1, 0))
                self.assertEqual(has(kept, day), after(ladder, day, 12) == day)

    def test_sets_that_stay_far_are_asked(self):
        kept = still(([0, 1], [10 ** 9, 10 ** 9], 1))
        self.told(kept, ([0, 1, 2 * 10 ** 9 - 3, 2 * 10 ** 9 - 2], 2 * 10 ** 9 - 1, 1, []))
        self.told(next_day(kept, 2), 2 * 10 ** 9 - 3)
        self.told(least_set(kept), kept)
        self.told(gaps(kept), (1, 2 * 10 ** 9 - 4))
        self.told(meeting(kept, every(2, 1)), 1)


class OfCalendars(Case):
    def test_dates_and_days(self):
        for calendar in calendars(321, 40):
            for day in list(range(40)) + [10 ** 30, 10 ** 30 + 1, 10 ** 31]:
                date = calendar.date(day)
                self.assertEqual(calendar.day(date), day)
                self.assertTrue(has(calendar.dates(date[1], date[2]), day))
                self.assertEqual(has(calendar.month_starts(), day), date[2] == 0)
                self.assertEqual(has(calendar.year_starts(), day), date[1:] == (0, 0))
                self.assertEqual(has(calendar.last_days(), day), calendar.date(day + 1)[2] == 0)

    def test_sets(self):
        for calendar in calendars(322, 40):
            self.told(calendar.year_starts(), calendar.dates(0, 0))
            self.told(calendar.last_days(), moved(calendar.month_starts(), -1))
            self.told(but(calendar.year_starts(), calendar.month_starts()), NONE)
            firsts, whole = NONE, NONE
            for month in range(4):
                firsts = either(firsts, calendar.dates(month, 0))
                for place in range(5):
                    days = calendar.dates(month, place)
                    self.told(meeting(whole, days), None)
                    whole = either(whole, days)
            self.told(firsts, calendar.month_starts())
            self.told(whole, ALL)

    def test_months(self):
        for calendar in calendars(323, 40):
            months, starts = calendar.months(), calendar.month_starts()
            self.told(joined(NEXT, counts(starts)), plus(months, ([], [1], 0)))
            self.told(joined(nth_days(starts), months), SAME)
            self.told(first_from(months), nth_days(starts))
            to_end = ladder_of(Almanac(calendar, []), [("to", ("ends",))])
            self.told(joined(months, nth_days(calendar.last_days())), to_end)
            self.assertEqual(speed(months), speed(counts(starts)))

    def test_months_and_years_on(self):
        for calendar in calendars(324, 30):
            months = calendar.months()
            for number in (0, 1, 2, 5, 10 ** 30):
                on, later_on = calendar.months_on(number), calendar.years_on(number)
                self.told(joined(on, months), plus(months, ([], [number], 0)))
                self.told(first_less(calendar.months_on(number + 1), on), None)
                self.told(first_less(calendar.years_on(number + 1), later_on), None)
                for day in (0, 3, 7, 10 ** 30 + 5):
                    self.assertEqual(calendar.date(value(later_on, day))[0], calendar.date(day)[0] + number)
                    self.assertLessEqual(calendar.date(value(on, day))[2], calendar.date(day)[2])
            self.told(calendar.months_on(0), SAME)
            self.told(calendar.years_on(0), SAME)
            self.told(calendar.years_on(len(calendar.years)), ([], [len(calendar)], 1))

    def test_told_twice(self):
        for calendar in calendars(325, 30):
            twice = Calendar(calendar.years * 2)
            self.assertTrue(twice == calendar)
            self.told(len(twice), 2 * len(calendar))
            self.told(twice.months(), calendar.months())
            for number in (1, 3, 10 ** 30):
                self.told(twice.months_on(number), calendar.months_on(number))
                self.told(twice.years_on(number), calendar.years_on(number))
                self.told(twice.date(number), calendar.date(number))
            self.told(twice.month_starts(), calendar.month_starts())
            self.told(twice.dates(1, 1), calendar.dates(1, 1))
            self.told(ladder_of(Almanac(twice, []), [("months", 1)]), calendar.months_on(1))


class OfFeasts(Case):
    def test_words_and_sets(self):
        for almanac, (one, other, _) in almanacs(331, 80):
            here, there, calendar = days_of(almanac, one), days_of(almanac, other), almanac.calendar
            for feast, wanted in ((("both", one, other), both(here, there)),
                                  (("either", one, other), either(here, there)),
                                  (("but", one, other), but(here, there)), (("not", one), others(here)),
                                  (("moved", -3, one), moved(here, -3)), (("moved", 4, one), moved(here, 4)),
                                  (("starts",), calendar.month_starts()), (("ends",), calendar.last_days()),
                                  (("date", 1, 0), calendar.dates(1, 0)), (("each", 4, 2), every(4, 2)),
                                  (("on", [1, 3]), set_of([1, 3])), (("next", one, one), here),
                                  (("last", one, one), here), (("nth", 1, one, one), here),
                                  (("nth", 2, one, one), NONE)):
                self.told(days_of(almanac, feast), wanted)

    def test_next_last_and_nth(self):
        for almanac, (one, other, _) in almanacs(332, 120):
            here, there = days_of(almanac, one), days_of(almanac, other)
            to, back = days_of(almanac, ("next", one, other)), days_of(almanac, ("last", one, other))
            first = days_of(almanac, ("nth", 1, one, other))
            self.told(but(to, there), NONE)
            self.told(but(back, there), NONE)
            self.told(but(first, here), NONE)
            self.told(days_of(almanac, ("last", ("nth", 1, one, other), other)), back)
            self.told(days_of(almanac, ("next", ("last", one, other), one)), first)
            day = next_day(here, 0)
            for _ in range(8):
                if day is not None:
                    late = next_day(there, day)
                    self.assertTrue(late is None or has(to, late))
                    day = next_day(here, day + 1)

    def test_distances(self):
        for almanac, (one, other, _) in almanacs(333, 100):
            here, there = days_of(almanac, one), days_of(almanac, other)
            found = distances(almanac, one, other)
            self.told(found is None, here == NONE)
            if here[3]:
                least, greatest = gaps(here)
                self.told(distances(almanac, ("moved", 1, one), one), (least - 1, greatest - 1))
                self.told(distances(almanac, one, one), (0, 0))
            if found is not None:
                self.told(found[0] == 0, meeting(here, there) is not None)
                self.told(found[1] == 0, but(here, there) == NONE)
                self.told(found[0] is None, days_of(almanac, ("next", one, other)) == NONE)
            if found is not None and there[3]:
                lengths = apart(ladder_of(almanac, [("to", other)]), SAME)
                self.assertLessEqual(lengths[0], found[0])
                self.assertLessEqual(found[1], lengths[1])

    def test_of_several(self):
        for almanac, _ in almanacs(334, 120):
            names = [name for name, _ in almanac.feasts]
            pairs = [(name, other) for at, name in enumerate(names) for other in names[at + 1:]]
            apart_all = [pair for pair in pairs if meeting(almanac[pair[0]], almanac[pair[1]]) is None]
            self.told(never_meeting(almanac), sorted(apart_all))
            alike_ones = {other for name, other in pairs if first_apart(almanac[name], almanac[other]) is None}
            self.told(needless(almanac), [name for name in names if name in alike_ones])
            number, day = busiest(almanac)
            self.assertEqual(sum(has(almanac[name], day) for name in names), number)
            self.assertEqual(number <= 1, len(apart_all) == len(pairs))


class OfTerms(Case):
    def test_ladders(self):
        for almanac, (one, other, third), _ in terms(341, 80):
            here, there = ladder_of(almanac, one), ladder_of(almanac, other)
            self.told(ladder_of(almanac, one + other), joined(here, there))
            self.told(ladder_of(almanac, [("earlier", one, other)]), earlier(here, there))
            self.told(ladder_of(almanac, [("later", one, other)] + third),
                      joined(later(here, there), ladder_of(almanac, third)))
            self.told(ladder_of(almanac, []), SAME)
            self.told(first_less(here, SAME), None)
            self.told(speed(here), (1, 1))
            for day in (0, 1, 5, 10 ** 30, 10 ** 31):
                self.told(due(almanac, one, day), value(here, day))
                self.told(due(almanac, one + other, day), due(almanac, other, due(almanac, one, day)))

    def test_functions(self):
        for almanac, (one, other, _), _ in terms(342, 80):
            here, there = ladder_of(almanac, one), ladder_of(almanac, other)
            self.told(first_later(almanac, one, other), first_less(there, here))
            self.told(never_later(almanac, one, other), first_less(there, here) is None)
            self.told(slack(almanac, one, other), apart(there, here))
            self.told(spread(almanac, one), apart(here, SAME))
            self.told(spread(almanac, one), slack(almanac, [], one))
            self.told(passing(almanac, one, other), alike(joined(here, there), joined(there, here)))
            for day in list(range(9)) + [value(here, 0), value(here, 0) + 40]:
                starts = value(until(here), day)
                self.told(last_start(almanac, one, day), starts - 1 if starts else None)

    def test_needless_steps_and_shortest(self):
        for almanac, (one, other, _), _ in terms(343, 80):
            here = ladder_of(almanac, one)
            without = [at for at in range(len(one)) if alike(ladder_of(almanac, one[:at] + one[at + 1:]), here)]
            self.told(needless_steps(almanac, one), without)
            found = shortest(almanac, one, one, len(one))
            self.assertIsNotNone(found)
            self.told(ladder_of(almanac, [one[at] for at in found]), here)
            self.assertLess(len(found), len(one) + (0 if without else 1))
            steps = (one + other)[:4]
            found = shortest(almanac, steps, other, 2)
            if found is not None:
                self.told(ladder_of(almanac, [steps[at] for at in found]), ladder_of(almanac, other))

    def test_goals(self):
        for almanac, _, feast in terms(344, 80):
            days = days_of(almanac, feast)
            to, work = ladder_of(almanac, [("to", feast)]), ladder_of(almanac, [("work", 1, feast)])
            self.told(still(to), days)
            self.told(joined(to, to), to)
            self.told(to, joined(counts(days), nth_days(days)))
            self.told(work, joined(NEXT, to))
            for number in (2, 3):
                self.told(ladder_of(almanac, [("work", number, feast)]), power(work, number))
            for day in (0, 4, 10 ** 30):
                self.told(due(almanac, [("to", feast)], day), next_day(days, day))
                self.told(due(almanac, [("work", 10 ** 30, feast)], day), after(work, day, 10 ** 30))
                self.told(due(almanac, [("work", 7, feast)], day), after(work, day, 7))
            self.told(due(almanac, [("work", 3, feast)], due(almanac, [("to", feast)], 0)), value(nth_days(days), 3))
            self.told(still(ladder_of(almanac, [("not before", 5)])), every(1, 5))
            self.told(speed(counts(days)), (speed(nth_days(days))[1], speed(nth_days(days))[0]))

    def test_months_to_starts(self):
        for calendar in calendars(345, 40):
            almanac = Almanac(calendar, [])
            on = ladder_of(almanac, [("months", 1)])
            start = ladder_of(almanac, [("work", 1, ("starts",))])
            self.told(first_less(on, start), None)
            self.told(joined(start, on), ladder_of(almanac, [("work", 2, ("starts",))]))
            self.told(ladder_of(almanac, [("to", ("starts",)), ("months", 2)]),
                      ladder_of(almanac, [("to", ("starts",)), ("work", 2, ("starts",))]))
            self.told(ladder_of(almanac, [("to", ("date", 0, 0)), ("years", 10 ** 30)]),
                      ladder_of(almanac, [("to", ("date", 0, 0)), ("work", 10 ** 30, ("date", 0, 0))]))


class PassedOn(Case):
    def test_long_ladders(self):
        long = power(([], [0, 0], 1), 10)
        self.told(long, ([], [0] * 1024, 1))
        self.told(until(long), ([], [1024], 1024))
        self.told(first_from(long), ([], [0], 1024))
        self.told(joined(first_from(long), long), SAME)
        self.told(value(joined(long, ([], [0], 1024)), 10 ** 30), 10 ** 30 // 1024 * 1024)
        self.told(first_unlike(long, ([], [0] * 1023, 1)), 1023)
        self.told(still(long), ([0], 1, 1, []))
        self.told(settles(long, 10 ** 30), (10, 1, 0))
        self.told(speed(plus(long, SAME)), (1025, 1024))

    def test_great_numbers(self):
        great = power(([], [1], 600), 12)
        start = sum(600 ** times for times in range(12))
        self.told(great, ([], [start], 600 ** 12))
        self.told(value(great, 10 ** 31), start + 600 ** 12 * 10 ** 31)
        self.told(plus(great, great), ([], [2 * start], 2 * 600 ** 12))
        self.told(apart(great, SAME), (start, None))
        self.told(still(great), NONE)
        self.told(settles(great, 0), None)
        self.told(first_less(([], [start], 1), great), 1)

    def test_long_sets(self):
        told = both(every(40, 0), every(49, 1))
        self.told(told, ([], 0, 1960, [1520]))
        self.told(others(others(told)), told)
        self.told(next_day(told, 10 ** 30), 1520 + 1960 * -(-(10 ** 30 - 1520) // 1960))
        self.told(nth_days(told), ([], [1520], 1960))
        self.told(counts(told), ([], [0] * 1521 + [1] * 439, 1))
        self.told(first_apart(told, every(1960, 1520)), None)
        self.told(gaps(others(told)), (1, 2))
        self.told(meeting(told, others(told)), None)


if __name__ == "__main__":
    unittest.main()
