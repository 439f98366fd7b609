"""Feasts, told in a language of their own, and almanacs, in which feasts have names."""

from math import gcd, lcm

from ladderdays.days import (both, but, day_from, days_before, either, every, many_before, meeting, moved, nth_day,
                             others, parted, set_of, shared)
from ladderdays.errors import DoubleName, InvalidName, InvalidNumber, UnknownName
from ladderdays.rounds import copied

# The least numbers that may stand behind a word; behind "moved" any may stand.
LEAST = {"each": (1, 0), "date": (0, 0), "nth": (1,)}


def is_name(name):
    """Tell whether a text has one to eight letters from a to z."""
    return 1 <= len(name) <= 8 and all(["a" <= letter <= "z" for letter in name])


def check_names(names):
    """Raise InvalidName for the first text that is no name, or else DoubleName for the first that stood before."""
    for name in names:
        if not is_name(name):
            raise InvalidName(name)
    for at, name in enumerate(names):
        if name in names[:at]:
            raise DoubleName(name)


def check_ascent(days):
    """Raise InvalidNumber for the first day that is below 0 or not above the one before."""
    for before, day in zip([-1] + days, days):
        if day <= before:
            raise InvalidNumber(day)


def parts_of(feast):
    """Return the feasts that stand directly in a feast."""
    return [part for part in feast if isinstance(part, tuple)]


def check_feast(names, feast):
    """Raise the first error of a feast, outside first, which may name the feasts that have these names."""
    word = feast[0]
    if word == "name" and feast[1] not in names:
        raise UnknownName(feast[1])
    if word == "on":
        check_ascent(feast[1])
    for number, least in zip(feast[1:], LEAST.get(word, ())):
        if number < least:
            raise InvalidNumber(number)
    for part in parts_of(feast):
        check_feast(names, part)


def common_end(one, other):
    """Return the end of the second common round of two sets."""
    first, length = shared(one, other)
    return first + 2 * length


def led_to(one, other, days):
    """Return the set of some days to which days of the one lead by way of those of the other one.

    If the other one has no end, they come over and over from the end of the first common round on, as from there on
    only days of common rounds lead to them; so it is enough to be told those ahead of the common end.
    """
    if not other[3]:
        return set_of(days)
    first, length = shared(one, other)
    ahead = [day for day in sorted(set(days)) if day < first + 2 * length]
    return parted(ahead, first + length, length)


def next_days(one, other):
    """Return, of each day of the one ahead of the common end, the first day of the other one that is not before it."""
    days = [day_from(other, day) for day in days_before(one, common_end(one, other))]
    return [day for day in days if day is not None]


def nth_ones(number, one, other):
    """Return, of each day of the other one ahead of the common end, the tuple (day, nth) of it and of the number-th
    day of the one from it on and before the next day of the other one, if there is such a day."""
    found = []
    for day in days_before(other, common_end(one, other)):
        nth, behind = nth_day(one, many_before(one, day) + number - 1), day_from(other, day + 1)
        if nth is not None and (behind is None or nth < behind):
            found.append((day, nth))
    return found


def joint_days(word, one, other):
    """Return the set of the days of a feast of two others, by its word and their days."""
    if word == "both":
        return both(one, other)
    if word == "either":
        return either(one, other)
    if word == "but":
        return but(one, other)
    if word == "next":
        return led_to(one, other, next_days(one, other))
    # A day is the last one not behind some day of the one just if a first day of the one comes ahead of the next.
    return led_to(one, other, [day for day, _ in nth_ones(1, one, other)])


def feast_days(calendar, known, feast):
    """Return the set of the days of a feast, by the sets of the feasts that have names."""
    word, parts = feast[0], [feast_days(calendar, known, part) for part in parts_of(feast)]
    if word == "each":
        return every(feast[1], feast[2])
    if word == "on":
        return set_of(feast[1])
    if word == "date":
        return calendar.dates(feast[1], feast[2])
    if word == "starts":
        return calendar.month_starts()
    if word == "ends":
        return calendar.last_days()
    if word == "name":
        return known[feast[1]]
    if word == "not":
        return others(parts[0])
    if word == "moved":
        return moved(parts[0], feast[1])
    if word == "nth":
        return led_to(parts[0], parts[1], [nth for _, nth in nth_ones(feast[1], parts[0], parts[1])])
    return joint_days(word, parts[0], parts[1])


def known_days(calendar, feasts):
    """Return the sets of feasts by their names, as they stand in an almanac, in its order."""
    known = []
    for name, feast in feasts:
        known.append((name, feast_days(calendar, dict(known), feast)))
    return dict(known)


class Almanac:
    """A calendar, and feasts that have names."""

    def __init__(self, calendar, feasts):
        names = [name for name, _ in feasts]
        check_names(names)
        for at, (_, feast) in enumerate(feasts):
            check_feast(names[:at], feast)
        self._calendar = calendar
        # What the days of feasts are is found out when it is asked, as they may be more than anyone asks for.
        self._feasts = copied(feasts)

    def __eq__(self, other):
        return isinstance(other, Almanac) and self._calendar == other._calendar and self._feasts == other._feasts

    def __len__(self):
        return len(self._feasts)

    def __getitem__(self, at):
        if at not in [name for name, _ in self._feasts]:
            raise UnknownName(at)
        return known_days(self._calendar, self._feasts)[at]

    def __iter__(self):
        raise TypeError("an almanac is not iterated over")

    @property
    def calendar(self):
        """The calendar."""
        return self._calendar

    @property
    def feasts(self):
        """The list of the tuples (name, feast), as it was passed."""
        return copied(self._feasts)


def names_in(almanac):
    """Return the names of the feasts of an almanac, in their order."""
    return [name for name, _ in almanac.feasts]


def known_in(almanac):
    """Return the sets of the days of the feasts of an almanac by their names, in its order."""
    return known_days(almanac.calendar, almanac.feasts)


def days_of(almanac, feast):
    """Return the set of the days of a feast."""
    check_feast(names_in(almanac), feast)
    return feast_days(almanac.calendar, known_in(almanac), feast)


def days_like(one, other):
    """Return days that stand to the days of the other one just as those of the one do."""
    first, step = max(one[1], other[1]), gcd(one[2], other[2])
    places = {(one[1] + place) % step: True for place in one[3]}
    # In the long run the one's places meet all of the other one's that are as far behind multiples of `step`.
    behind = [day for day in range(first, first + other[2]) if day % step in places]
    return days_before(one, first) + behind


def distances(almanac, one, other):
    """Return the tuple (least, greatest) of how many days lie from a day of the one to the next day of the other one
    that is not before it; `greatest` None if some day has none, both if no day has one; None if the one has no day."""
    for feast in (one, other):
        check_feast(names_in(almanac), feast)
    known = known_in(almanac)
    here, there = [feast_days(almanac.calendar, known, feast) for feast in (one, other)]
    days = days_like(here, there)
    if not days:
        return None
    pairs = [(day, day_from(there, day)) for day in days]
    lengths = [late - day for day, late in pairs if late is not None]
    greatest = max(lengths) if len(lengths) == len(days) else None
    return min(lengths, default=None), greatest


def never_meeting(almanac):
    """Return the list, ascending as texts, of the tuples of the names of two feasts without a common day, the one
    that stands ahead first."""
    known = known_in(almanac)
    names = list(known)
    return sorted([(name, other) for at, name in enumerate(names) for other in names[at + 1:]
                   if meeting(known[name], known[other]) is None])


def needless(almanac):
    """Return the list, in their order, of the names of feasts whose days are those of one that stands ahead."""
    known = known_in(almanac)
    names = list(known)
    return [name for at, name in enumerate(names) if known[name] in [known[other] for other in names[:at]]]


def busiest(almanac):
    """Return the tuple (number, day) of the greatest number of feasts that fall on one day and of the first such day,
    (0, 0) if there is none."""
    sets = list(known_in(almanac).values())
    first, length = 0, 1
    for told in sets:
        first, length = max(first, told[1]), lcm(length, told[2])
    many = {}
    for told in sets:
        for day in days_before(told, first + length):
            many[day] = many.get(day, 0) + 1
    greatest = max(list(many.values()), default=0)
    return greatest, min([day for day in many if many[day] == greatest], default=0)
