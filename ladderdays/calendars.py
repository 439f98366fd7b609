"""Invented calendars: years of months, which come over and over."""

from ladderdays.days import place_of
from ladderdays.errors import InvalidDate, InvalidYears
from ladderdays.rounds import check_numbers, copied, narrowed, shortened


def are_years(years):
    """Tell whether there is a year, and each year has a month, and each month a day."""
    return len(years) > 0 and all([len(sizes) > 0 and min(sizes) >= 1 for sizes in years])


def first_years(years, many):
    """Return so many first years of some that come over and over."""
    return [years[year % len(years)] for year in range(many)]


def come_alike(one, other):
    """Tell whether some years over and over are the same as some other ones over and over."""
    # Two rounds that agree for as many years as both are long together agree in all years.
    many = len(one) + len(other)
    return first_years(one, many) == first_years(other, many)


def months_in(years):
    """Return the list of the tuples (year, month, first day, size) of all months of some years."""
    months, start = [], 0
    for year, sizes in enumerate(years):
        for month, size in enumerate(sizes):
            months.append((year, month, start, size))
            start += size
    return months


def clipped(start, size, many):
    """Return the days with the first places, so many, of a month, its last day for those that it has not."""
    return [start + min(place, size - 1) for place in range(many)]


class Calendar:
    """A list of years, each a list of the lengths of its months, which come over and over from day 0 on."""

    def __init__(self, years):
        if not are_years(years):
            raise InvalidYears(copied(years))
        self._years = copied(years)
        self._months = months_in(years)
        self._starts = [start for _, _, start, _ in self._months]
        self._length = sum([sum(sizes) for sizes in years])
        # Of each year the index of its first month among all months.
        self._firsts = [at for at, (_, month, _, _) in enumerate(self._months) if month == 0]

    def __eq__(self, other):
        return isinstance(other, Calendar) and come_alike(self._years, other._years)

    def __len__(self):
        return len(range(self._length))

    @property
    def years(self):
        """The list of years, as it was passed."""
        return copied(self._years)

    def date(self, day):
        """Return the tuple (year, month, day) of a day, each from 0 on."""
        check_numbers([day])
        turns, behind = divmod(day, self._length)
        at = place_of(self._starts, behind + 1) - 1
        year, month, start, _ = self._months[at]
        return turns * len(self._years) + year, month, behind - start

    def day(self, date):
        """Return the day of a date."""
        year, month, place = date
        check_numbers([year, month, place])
        turns, at = divmod(year, len(self._years))
        sizes = self._years[at]
        if month >= len(sizes) or place >= sizes[month]:
            raise InvalidDate(date)
        return turns * self._length + self._starts[self._firsts[at] + month] + place

    def year_starts(self):
        """Return the set of the first days of years."""
        return self._set_of([self._starts[at] for at in self._firsts])

    def month_starts(self):
        """Return the set of the first days of months."""
        return self._set_of(self._starts)

    def dates(self, month, day):
        """Return the set of the days with this place in their month of each year that has it."""
        check_numbers([month, day])
        return self._set_of([start + day for _, at, start, size in self._months if at == month and day < size])

    def last_days(self):
        """Return the set of the last days of months."""
        return self._set_of([start + size - 1 for _, _, start, size in self._months])

    def months_on(self, months):
        """Return the ladder that tells, of a day, the day so many months later with the same place in its month,
        or the month's last day if it is shorter."""
        check_numbers([months])
        days = []
        for at, (_, _, _, size) in enumerate(self._months):
            start, there = self._month(at + months)
            days.extend(clipped(start, there, size))
        return shortened(([], days, self._length))

    def years_on(self, years):
        """Return the ladder that tells, of a day, the day so many years later, of the same month and place, or the
        month's last day if it is shorter, or the year's last day if it has fewer months."""
        check_numbers([years])
        days = []
        for year, month, _, size in self._months:
            turns, at = divmod(year + years, len(self._years))
            last = len(self._years[at]) - 1
            start, there = self._month(turns * len(self._months) + self._firsts[at] + min(month, last))
            if month > last:
                start, there = start + there - 1, 1
            days.extend(clipped(start, there, size))
        return shortened(([], days, self._length))

    def months(self):
        """Return the ladder that tells how many months lie ahead of that of a day."""
        numbers = [at for at, (_, _, _, size) in enumerate(self._months) for _ in range(size)]
        return shortened(([], numbers, len(self._months)))

    def _set_of(self, days):
        """Return the set of some days of the first round, over and over."""
        return narrowed(([], 0, self._length, days))

    def _month(self, number):
        """Return (start, size) of the month with a number, from 0 on."""
        turns, at = divmod(number, len(self._months))
        _, _, start, size = self._months[at]
        return turns * self._length + start, size
