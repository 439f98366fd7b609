"""Sets of days."""

from math import gcd, lcm

from ladderdays.errors import InvalidNumber, NoDays
from ladderdays.rounds import check_numbers, check_sets, copied, ended, narrowed, shortened


def place_of(numbers, number):
    """Return how many of some ascending numbers are less than a number."""
    low, high = 0, len(numbers)
    while low < high:
        middle = (low + high) // 2
        if numbers[middle] < number:
            low = middle + 1
        else:
            high = middle
    return low


def many_before(told, day):
    """Return how many days of a set are less than a day."""
    early, first, length, found = told
    if day <= first:
        return place_of(early, day)
    turns, place = divmod(day - first, length)
    return len(early) + len(found) * turns + place_of(found, place)


def nth_day(told, number):
    """Return the day of a set with a number, from 0 on, None if there is none."""
    early, first, length, found = told
    if number < len(early):
        return early[number]
    if not found:
        return None
    turns, at = divmod(number - len(early), len(found))
    return first + length * turns + found[at]


def day_from(told, day):
    """Return the first day of a set that is not less than a day, None if there is none."""
    return nth_day(told, many_before(told, day))


def holds(told, day):
    """Tell whether a set has a day."""
    return day_from(told, day) == day


def days_before(told, end):
    """Return the ascending list of the days of a set that are less than `end`, at least its first."""
    early, first, length, found = told
    days = list(early)
    # A set that has an end may lie far ahead of `end`.
    if found:
        for start in range(first, end, length):
            days.extend([start + place for place in found if start + place < end])
    return days


def shared(one, other):
    """Return the first day from which two sets come over and over together, and that round's length."""
    return max(one[1], other[1]), lcm(one[2], other[2])


def parted(days, first, length):
    """Return the set with these days less than first + length, of which those from `first` on come again."""
    early = [day for day in days if day < first]
    return narrowed((early, first, length, [day - first for day in days[len(early):]]))


def shared_day(one, other, day, end):
    """Return the first day of two sets from a day on that is less than `end`, None if there is none."""
    here, there = day_from(one, day), day_from(other, day)
    while here is not None and there is not None and max(here, there) < end:
        if here == there:
            return here
        here, there = day_from(one, there), day_from(other, here)
    return None


def lacking(one, other):
    """Return the set of the days of the one that the other one has not."""
    first, length = shared(one, other)
    days = [day for day in days_before(one, first + length) if not holds(other, day)]
    return parted(days, first, length)


def rounds_meet(one, other):
    """Tell whether any days in the rounds of two sets are the same."""
    step = gcd(one[2], other[2])
    places = {(one[1] + place) % step: True for place in one[3]}
    return any([(other[1] + place) % step in places for place in other[3]])


def telling_days(sets):
    """Return ascending days among which is the first one of each way in which sets can have a day or not.

    It goes by the days that are told, not by all that lie between them: sets may lie anywhere.
    """
    marks, length = [0], 1
    for told in sets:
        marks.extend(told[0] + [told[1]])
        length = lcm(length, told[2])
    marks = sorted(set(marks))
    days = []
    # Between two marks all sets just go on as they do, so that a common round of days shows all that happens there.
    for mark, behind in zip(marks, marks[1:] + [marks[-1] + length + 1]):
        days.extend(list(range(mark, min(behind, mark + length + 1))))
    return days


def first_patterns(sets):
    """Return, ascending, the tuples (day, pattern) of the first day of each pattern: for each set, in their order,
    whether it has the day."""
    least, found = [narrowed(told) for told in sets], {}
    for day in telling_days(least):
        pattern = tuple([holds(told, day) for told in least])
        if pattern not in found:
            found[pattern] = day
    return [(day, pattern) for pattern, day in found.items()]


def has(told, day):
    """Return True if a set has a day, otherwise False."""
    check_sets([told])
    check_numbers([day])
    return holds(told, day)


def least_set(told):
    """Return a set in its least way."""
    check_sets([told])
    return narrowed(told)


def set_of(days):
    """Return the set of some days, in any order, any of them more than once."""
    check_numbers(days)
    return ended(sorted(set(days)))


def every(length, first):
    """Return the set of first, first + length and so on."""
    if length < 1:
        raise InvalidNumber(length)
    check_numbers([first])
    return narrowed(([], first, length, [0]))


def both(one, other):
    """Return the set of the days of both."""
    check_sets([one, other])
    one, other = narrowed(one), narrowed(other)
    first, length = shared(one, other)
    days = []
    day = shared_day(one, other, 0, first + length)
    while day is not None:
        days.append(day)
        day = shared_day(one, other, day + 1, first + length)
    return parted(days, first, length)


def either(one, other):
    """Return the set of the days of any of them."""
    check_sets([one, other])
    one, other = narrowed(one), narrowed(other)
    first, length = shared(one, other)
    days = sorted(set(days_before(one, first + length) + days_before(other, first + length)))
    return parted(days, first, length)


def but(one, other):
    """Return the set of the days of the one and not of the other one."""
    check_sets([one, other])
    return lacking(narrowed(one), narrowed(other))


def others(told):
    """Return the set of all other days."""
    check_sets([told])
    return lacking(([], 0, 1, [0]), narrowed(told))


def moved(told, days):
    """Return the set of all its days so many days later, or, below 0, earlier, as far as they are not below 0."""
    check_sets([told])
    early, first, length, found = told
    start = first + days
    if start >= 0:
        return narrowed(([day + days for day in early if day + days >= 0], start, length, found))
    return narrowed(([], 0, length, sorted([(start + place) % length for place in found])))


def first_apart(one, other):
    """Return the first day that just one of two sets has, None if there is none."""
    check_sets([one, other])
    # Two rounds that agree for as many days as both are long together agree on all days.
    end = max(one[1], other[1]) + one[2] + other[2]
    here, there = day_from(one, 0), day_from(other, 0)
    while here == there:
        if here is None or here >= end:
            return None
        here, there = day_from(one, here + 1), day_from(other, here + 1)
    return min([day for day in (here, there) if day is not None])


def meeting(one, other):
    """Return the first day of both, None if there is none."""
    check_sets([one, other])
    one, other = narrowed(one), narrowed(other)
    first, length = shared(one, other)
    end = first + length if rounds_meet(one, other) else first
    return shared_day(one, other, 0, end)


def next_day(told, day):
    """Return the first day of a set that is not less than a day, None if there is none."""
    check_sets([told])
    check_numbers([day])
    return day_from(told, day)


def counts(told):
    """Return the ladder that tells how many days of a set are less than a day."""
    check_sets([told])
    early, first, length, found = narrowed(told)
    days = early + [first + place for place in found]
    numbers, many = [], 0
    for day in range(first + length):
        numbers.append(many)
        if many < len(days) and days[many] == day:
            many += 1
    return shortened((numbers[:first], numbers[first:], len(found)))


def nth_days(told):
    """Return the ladder that tells the n-th day of a set, from 0 on."""
    check_sets([told])
    early, first, length, found = told
    if not found:
        raise NoDays(copied(told))
    return shortened((early, [first + place for place in found], length))


def gaps(told):
    """Return the tuple (least, greatest) of the distances of neighbouring days of a set."""
    check_sets([told])
    early, first, length, found = told
    if not found and len(early) < 2:
        raise NoDays(copied(told))
    days = early + [first + place for place in found] + [first + length + place for place in found[:1]]
    distances = [late - soon for soon, late in zip(days, days[1:])]
    return min(distances), max(distances)
