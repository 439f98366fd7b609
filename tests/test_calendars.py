"""The section `ladderdays/calendars.py`: calendars, their dates, sets and ladders."""

import random
import unittest

from ladderdays.calendars import Calendar
from ladderdays.errors import InvalidDate, InvalidNumber, InvalidYears
from tests.plain import Case, agreeing, ladder_from, set_from, years_of
from tests.reckon import (dates_upto, day_months_on, day_years_on, draw_years, length_of, months_upto, years_upto)

NONE = ([], 0, 1, [])
ALL = ([], 0, 1, [0])
SAME = ([], [0], 1)
WRITTEN = [[[1]], [[12]], [[1, 1, 1]], [[2, 3], [2, 4]], [[1], [1, 1]], [[3, 1, 2], [4]], [[4], [3, 1, 2]],
           [[1, 5], [5, 1]], [[2], [2], [3]], [[1, 1, 1, 1, 1, 1], [1]], [[3, 2, 1], [1], [2, 2]]]
GREATEST = [[[3, 2, 3, 3, 3, 2]] * 8, [[12] * 6, [1], [12, 12, 12, 12], [9]],
            [[7, 1, 6, 2, 5, 3], [1, 2, 3, 4, 5, 6], [12, 1], [1], [2, 2], [12], [1, 12, 1], [4, 4, 4, 4, 4]]]


def drawn(seed, many):
    """Some years, those that are written above among them, some twice."""
    chance = random.Random(seed)
    made = [[list(sizes) for sizes in years] for years in WRITTEN]
    made.extend(draw_years(chance) for _ in range(many))
    return made + [years + years for years in made[:len(WRITTEN) + 3]]


def plain_set(years, chosen):
    """The set of the days whose dates are chosen."""
    length = length_of(years)
    return set_from([chosen(date) for date in dates_upto(years, 2 * length)], 0, length)


class Dates(Case):
    def test_date_and_day(self):
        for years in drawn(501, 20) + GREATEST:
            calendar = Calendar(years)
            for day, date in enumerate(dates_upto(years, 3 * length_of(years))):
                self.answers(calendar.date, (day,), date)
                self.answers(calendar.day, (date,), day)

    def test_far_days(self):
        for years in drawn(502, 20) + GREATEST:
            calendar, length = Calendar(years), length_of(years)
            for turns in (10 ** 9, 10 ** 28 + 7, 10 ** 31 // length - 1):
                for behind, (year, month, place) in enumerate(dates_upto(years, length)):
                    date = (year + turns * len(years), month, place)
                    self.answers(calendar.date, (turns * length + behind,), date)
                    self.answers(calendar.day, (date,), turns * length + behind)

    def test_no_such_date(self):
        for years in drawn(503, 10):
            calendar = Calendar(years)
            days = {date: day for day, date in enumerate(dates_upto(years, 2 * length_of(years)))}
            for year in range(2 * len(years)):
                for month in range(7):
                    for place in range(14):
                        date = (year, month, place)
                        if date in days:
                            self.answers(calendar.day, (date,), days[date])
                        else:
                            self.refuses(calendar.day, (date,), InvalidDate, date)

    def test_no_such_date_far(self):
        calendar = Calendar([[2, 3], [4]])
        year = 2 * 10 ** 30
        self.answers(calendar.day, ((year, 1, 2),), 9 * 10 ** 30 + 4)
        self.answers(calendar.day, ((year + 1, 0, 3),), 9 * 10 ** 30 + 8)
        for date in ((year, 0, 2), (year, 1, 3), (year, 2, 0), (year + 1, 1, 0), (year + 1, 0, 4), (0, 10 ** 31, 0),
                     (0, 0, 10 ** 31), (year, 10 ** 31, 10 ** 31)):
            self.refuses(calendar.day, (date,), InvalidDate, date)

    def test_numbers_below_0(self):
        calendar = Calendar([[2, 3], [4]])
        for number in (-1, -7, -10 ** 31):
            self.refuses(calendar.date, (number,), InvalidNumber, number)
            for date in ((number, 0, 0), (0, number, 0), (0, 0, number), (number, 99, 99), (1, number, 99),
                         (1, 99, number)):
                self.refuses(calendar.day, (date,), InvalidNumber, number)
        self.refuses(calendar.day, ((-1, -2, -3),), InvalidNumber, -1)
        self.refuses(calendar.day, ((0, -2, -3),), InvalidNumber, -2)
        self.refuses(calendar.day, ((0, -3, -2),), InvalidNumber, -3)
        self.refuses(calendar.day, ((5, 9, -3),), InvalidNumber, -3)


class Sets(Case):
    def test_starts_and_last_days(self):
        for years in drawn(511, 60) + GREATEST:
            calendar, length = Calendar(years), length_of(years)
            self.answers(calendar.year_starts, (), plain_set(years, lambda date: date[1:] == (0, 0)))
            self.answers(calendar.month_starts, (), plain_set(years, lambda date: date[2] == 0))
            dates = dates_upto(years, 2 * length + 1)
            bits = [late[2] == 0 for late in dates[1:]]
            self.answers(calendar.last_days, (), set_from(bits, 0, length))

    def test_dates(self):
        for years in drawn(512, 30) + GREATEST:
            calendar = Calendar(years)
            for month in range(7):
                for day in range(14 if years in GREATEST else 6):
                    self.answers(calendar.dates, (month, day), plain_set(years, lambda date: date[1:] == (month, day)))

    def test_dates_that_no_year_has(self):
        calendar = Calendar([[2, 3], [2, 4]])
        for month, day in ((0, 2), (1, 4), (2, 0), (0, 10 ** 31), (10 ** 31, 0), (10 ** 31, 10 ** 31)):
            self.answers(calendar.dates, (month, day), NONE)

    def test_dates_below_0(self):
        calendar = Calendar([[2, 3], [2, 4]])
        for number in (-1, -10 ** 31):
            self.refuses(calendar.dates, (number, 0), InvalidNumber, number)
            self.refuses(calendar.dates, (0, number), InvalidNumber, number)
            self.refuses(calendar.dates, (99, number), InvalidNumber, number)
        self.refuses(calendar.dates, (-1, -2), InvalidNumber, -1)
        self.refuses(calendar.dates, (-2, -1), InvalidNumber, -2)

    def test_least_ways(self):
        self.answers(Calendar([[1]]).month_starts, (), ALL)
        self.answers(Calendar([[3, 3], [3, 3]]).month_starts, (), ([], 0, 3, [0]))
        self.answers(Calendar([[3, 3], [3, 3]]).year_starts, (), ([], 0, 6, [0]))
        self.answers(Calendar([[3, 3], [3, 3]]).last_days, (), ([], 0, 3, [2]))
        self.answers(Calendar([[3, 3], [3, 3]]).dates, (1, 2), ([], 0, 6, [5]))
        self.answers(Calendar([[1, 2], [3]]).year_starts, (), ([], 0, 3, [0]))
        self.answers(Calendar([[1, 2], [3]]).dates, (0, 0), ([], 0, 3, [0]))
        self.answers(Calendar([[1, 2], [3]]).dates, (1, 0), ([], 0, 6, [1]))


class Ladders(Case):
    def plain_ladder(self, years, reckoned):
        length = length_of(years)
        return ladder_from([reckoned(day) for day in range(2 * length)], 0, length)

    def test_months(self):
        for years in drawn(521, 40) + GREATEST:
            length = length_of(years)
            months = months_upto(years, 2 * length)
            numbers = [at for at, days in enumerate(months) for _ in days][:2 * length]
            self.answers(Calendar(years).months, (), ladder_from(numbers, 0, length))

    def test_months_on(self):
        for years in drawn(522, 12):
            calendar = Calendar(years)
            for many in range(2 * sum(len(sizes) for sizes in years) + 3):
                wanted = self.plain_ladder(years, lambda day: day_months_on(years, day, many))
                self.answers(calendar.months_on, (many,), wanted)

    def test_years_on(self):
        for years in drawn(523, 20):
            calendar = Calendar(years)
            for many in range(2 * len(years) + 3):
                wanted = self.plain_ladder(years, lambda day: day_years_on(years, day, many))
                self.answers(calendar.years_on, (many,), wanted)

    def test_of_the_greatest(self):
        for years in GREATEST:
            calendar = Calendar(years)
            for many in (1, 3, 6, 8, 13):
                wanted = self.plain_ladder(years, lambda day: day_months_on(years, day, many))
                self.answers(calendar.months_on, (many,), wanted)
                wanted = self.plain_ladder(years, lambda day: day_years_on(years, day, many))
                self.answers(calendar.years_on, (many,), wanted)

    def test_far(self):
        for years in drawn(524, 10):
            calendar, length = Calendar(years), length_of(years)
            many = sum(len(sizes) for sizes in years)
            for turns in (10 ** 9, 10 ** 29 + 3, 10 ** 30):
                for more in range(many + 1):
                    early, turn, rise = calendar.months_on(more)
                    wanted = (early, [number + turns * length for number in turn], rise)
                    self.answers(calendar.months_on, (turns * many + more,), wanted)
                for more in range(len(years) + 1):
                    early, turn, rise = calendar.years_on(more)
                    wanted = (early, [number + turns * length for number in turn], rise)
                    self.answers(calendar.years_on, (turns * len(years) + more,), wanted)

    def test_short_months_and_years(self):
        calendar = Calendar([[3, 1, 2], [4]])
        self.assertEqual(months_upto([[3, 1, 2], [4]], 4), [[0, 1, 2], [3], [4, 5], [6, 7, 8, 9]])
        self.answers(calendar.months_on, (1,), ([], [3, 3, 3, 4, 6, 7, 10, 11, 12, 12], 10))
        self.answers(calendar.years_on, (1,), ([], [6, 7, 8, 9, 9, 9, 10, 11, 12, 12], 10))
        self.answers(calendar.years_on, (2,), ([], [10], 1))
        self.answers(calendar.months_on, (4,), ([], [10], 1))
        self.answers(calendar.months_on, (0,), SAME)
        self.answers(calendar.years_on, (0,), SAME)
        self.assertEqual(years_upto([[1, 2], [1]], 3), [[[0], [1, 2]], [[3]], [[4], [5, 6]]])
        self.answers(Calendar([[1, 2], [1]]).years_on, (1,), ([], [3, 3, 3, 4], 4))

    def test_numbers_below_0(self):
        calendar = Calendar([[3, 1, 2], [4]])
        for number in (-1, -5, -10 ** 31):
            self.refuses(calendar.months_on, (number,), InvalidNumber, number)
            self.refuses(calendar.years_on, (number,), InvalidNumber, number)


class Whole(Case):
    def test_len(self):
        for years in drawn(531, 40) + GREATEST:
            self.told(len(Calendar(years)), length_of(years))
        self.told(len(Calendar([[1]])), 1)
        self.told(len(Calendar([[2, 3], [2, 4]] * 2)), 22)

    def test_years(self):
        for years in drawn(532, 40) + GREATEST:
            self.answers(years_of, (Calendar(years),), years)
            self.answers(years_of, (Calendar(years=years),), years)

    def test_the_years_change_behind(self):
        years = [[2, 3], [2, 4]]
        shared = [3]
        for passed in (years, [shared, shared, [1]]):
            calendar = Calendar(passed)
            kept = [list(sizes) for sizes in passed]
            dates = [calendar.date(day) for day in range(30)]
            passed[0][0] = 9
            passed[1].append(5)
            passed.append([7])
            self.told(calendar.years, kept)
            self.told([calendar.date(day) for day in range(30)], dates)
            self.told(len(calendar), length_of(kept))
            self.assertTrue(calendar == Calendar(kept))
            self.assertFalse(calendar == Calendar(passed))
            told = calendar.years
            told[0].append(1)
            told.pop()
            self.told(calendar.years, kept)
            self.told(calendar.years_on(1), Calendar(kept).years_on(1))
            self.assertTrue(calendar == Calendar(kept))

    def test_lists_of_years_stand_in_one_place(self):
        sizes = [1, 2]
        calendar = Calendar([sizes, sizes])
        self.apart_from(calendar.years, calendar.years)
        self.answers(years_of, (calendar,), [[1, 2], [1, 2]])

    def test_equal(self):
        for years in drawn(533, 30):
            for times in (1, 2, 3):
                for more in (1, 2, 3):
                    one, other = Calendar(years * times), Calendar(years * more)
                    self.assertIs(one == other, True)
                    self.assertIs(one != other, False)

    def test_equal_just_if_the_dates_are(self):
        chance = random.Random(534)
        made = [draw_years(chance, 3, 2, 2) for _ in range(60)] + WRITTEN
        for one in made:
            for other in made:
                days = length_of(one) * length_of(other)
                wanted = dates_upto(one, days) == dates_upto(other, days)
                self.assertIs(Calendar(one) == Calendar(other), wanted, (one, other))
                self.assertIs(Calendar(one) != Calendar(other), not wanted)

    def test_unlike(self):
        for one, other in (([[2, 3]], [[3, 2]]), ([[2], [3]], [[3], [2]]), ([[2], [3]], [[2, 3]]),
                           ([[1], [1]], [[1, 1]]), ([[2]], [[2], [2], [3]]),
                           ([[2], [2], [2]], [[2], [2], [2], [1]]), ([[2]], [[2, 2]])):
            self.assertIs(Calendar(one) == Calendar(other), False)
            self.assertIs(Calendar(other) == Calendar(one), False)

    def test_unlike_only_late(self):
        # Two rounds can agree for all but two as many years as both are long together, and part then.
        for size, more in ((3, 4), (5, 3), (7, 8), (8, 5)):
            one, other = [[[2] if bit else [1] for bit in bits] for bits in agreeing(size, more)]
            years = size + more - 2
            self.assertEqual([one[at % size] for at in range(years)], [other[at % more] for at in range(years)])
            self.assertIs(Calendar(one) == Calendar(other), False)
            self.assertIs(Calendar(other) == Calendar(one), False)

    def test_not_equal_to_anything_else(self):
        years = [[2, 3], [2, 4]]
        calendar = Calendar(years)

        class Like:
            def __init__(self):
                self.years = self._years = years

        for thing in (years, None, 0, 11, True, "2 3; 2 4", (2, 3), tuple(years), [], {}, Like(), Calendar, object()):
            self.assertIs(calendar == thing, False)
            self.assertIs(thing == calendar, False)
            self.assertIs(calendar != thing, True)

    def test_invalid_years(self):
        for years in ([], [[]], [[2], []], [[], [2]], [[0]], [[1, 0]], [[1], [2, -1]], [[-5]], [[3], [-10 ** 31], []],
                      [[1], [1, 1, 0, 1]], [[0], [1]], [[2, 2], [], [0]]):
            self.refuses(Calendar, (years,), InvalidYears, years)

    def test_valid_years(self):
        for years in ([[1]], [[1], [1]], [[1, 1], [1]], [[12] * 6], [[1]] * 8, [[2, 2]] * 9,
                      [[40, 1, 2, 3, 4, 5, 6, 7]]):
            self.answers(years_of, (Calendar(years),), years)

    def test_invalid_years_share_no_list(self):
        sizes = [0]
        self.refuses(Calendar, ([sizes, sizes],), InvalidYears, [[0], [0]])

    def test_two_calendars_by_turns(self):
        one, other = Calendar([[2, 3], [2, 4]]), Calendar([[5], [1, 1, 1]])
        wanted = [(one.date(day), other.date(day)) for day in range(40)]
        self.told([(one.date(day), other.date(day)) for day in range(40)], wanted)
        self.told([date for date, _ in wanted], dates_upto([[2, 3], [2, 4]], 40))
        self.told([date for _, date in wanted], dates_upto([[5], [1, 1, 1]], 40))
        self.told(one.month_starts(), ([], 0, 11, [0, 2, 5, 7]))
        self.told(other.month_starts(), ([], 0, 8, [0, 5, 6, 7]))
        self.told(one.month_starts(), ([], 0, 11, [0, 2, 5, 7]))

    def test_far_beyond_the_bounds(self):
        # Texts may tell of months that are longer than anyone asks for.
        years = [[999999999, 999999998], [999999997]]
        calendar = Calendar(years)
        self.told(calendar.years, years)
        self.told(len(calendar), 2999999994)
        self.assertTrue(calendar == Calendar(years * 2))
        self.assertFalse(calendar == Calendar([[999999999, 999999998]]))
        self.told(calendar.date(2999999993), (1, 0, 999999996))
        self.told(calendar.day((3, 0, 5)), 2999999994 + 999999999 + 999999998 + 5)


if __name__ == "__main__":
    unittest.main()
