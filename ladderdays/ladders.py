"""Ladders: what is told of days, and never goes back as days go on."""

from math import gcd, lcm

from ladderdays.errors import InvalidLadder
from ladderdays.rounds import (check_ladders, check_numbers, copied, ended, first_numbers, narrowed, shortened,
                               told_at)


def shared(one, other):
    """Return the first day from which two ladders come over and over together, and that round's length."""
    return max(len(one[0]), len(other[0])), lcm(len(one[1]), len(other[1]))


def risen(ladder, length):
    """Return by how much a ladder rises in a length, a multiple of that of its round."""
    return length // len(ladder[1]) * ladder[2]


def cut(numbers, length, rise):
    """Return the ladder that tells some numbers, of which the last ones, so many, come over and over."""
    start = len(numbers) - length
    return shortened((numbers[:start], numbers[start:], rise))


def excesses(one, other):
    """Return (numbers, start, gain): what the one tells less what the other one tells of all days up to
    the end of their first common round, where that round starts, and what it adds to this each time."""
    start, length = shared(one, other)
    pairs = zip(first_numbers(one, start + length), first_numbers(other, start + length))
    return [here - there for here, there in pairs], start, risen(one, length) - risen(other, length)


def even_from(slow, fast):
    """Return a day from which the slower ladder never tells more than the faster one."""
    numbers, start, gain = excesses(fast, slow)
    length = len(numbers) - start
    even = start
    for day in range(start, len(numbers)):
        if numbers[day] < 0:
            # So many rounds pass until the gain has made up for what this day lacks.
            rounds = (-numbers[day] - 1) // gain + 1
            even = max(even, day + length * (rounds - 1) + 1)
    return even


def by_speed(one, other):
    """Return two ladders, the slower one first."""
    if one[2] * len(other[1]) <= other[2] * len(one[1]):
        return one, other
    return other, one


def reach(slow, fast, last):
    """Return (days, length, rise): how many first days settle what comes of two ladders of which `last` alone
    counts in the end, unless they are equally fast; how many of these come over and over, and their rise."""
    start, length = shared(slow, fast)
    if risen(slow, length) == risen(fast, length):
        return start + length, length, risen(slow, length)
    return even_from(slow, fast) + len(last[1]), len(last[1]), last[2]


def turned(ladder):
    """Return (days, length, rise): the first days of which a ladder tells at least 0, 1 and so on, how many
    of the last ones come over and over, and their rise."""
    check_ladders([ladder])
    early, turn, rise = shortened(ladder)
    if rise == 0:
        raise InvalidLadder(copied(ladder))
    days, day = [], 0
    for number in range(turn[0] + 1 + rise):
        while told_at((early, turn, rise), day) < number:
            day += 1
        days.append(day)
    return days, rise, len(turn)


def as_fast_as_days(ladder):
    """Tell whether a ladder rises by as much as its round is long."""
    return ladder[2] == len(ladder[1])


def still_days(ladder):
    """Return the ascending list of the days of which a ladder that is not as fast as days tells themselves."""
    early, turn, rise = ladder
    days = [day for day, number in enumerate(early) if number == day]
    gain = rise - len(turn)
    for day, number in enumerate(turn, start=len(early)):
        # Each place in the round has one such day at most, as its lead changes by the gain each time.
        rounds = (day - number) // gain
        if rounds >= 0 and number + gain * rounds == day:
            days.append(day + len(turn) * rounds)
    return sorted(days)


def lap(ladder, day):
    """Return (path, back) of a ladder as fast as days: what it makes of a day again and again, up to where it
    stays, with None, or to where it stands in the round as it stood before, with the index of that."""
    early, turn, _ = ladder
    path, seen = [day], {}
    while True:
        here = path[-1]
        there = told_at(ladder, here)
        if there == here:
            return path, None
        if here >= len(early):
            place = (here - len(early)) % len(turn)
            if place in seen:
                return path, seen[place]
            seen[place] = len(path) - 1
        path.append(there)


def laps_down(ladder, day, shift):
    """Return how many laps, each of which makes a day lesser by -shift, can be done ahead of the beginning."""
    return (day - len(ladder[0])) // -shift


def stepped(ladder, day, times):
    """Return what so many times make of a day, each of them a step of its own until the day stays."""
    done = 0
    while done < times:
        there = told_at(ladder, day)
        if there == day:
            return day
        day = there
        done += 1
    return day


def times_to_stay(ladder, day):
    """Return how many times it takes until a day stays that comes to stay."""
    done = 0
    there = told_at(ladder, day)
    while there != day:
        day, there = there, told_at(ladder, there)
        done += 1
    return done


def after_evenly(ladder, day, times):
    """Return what so many times of a ladder as fast as days make of a day."""
    path, back = lap(ladder, day)
    last = len(path) - 1
    if times <= last:
        return path[times]
    if back is None:
        return path[last]
    length, shift = last - back, path[last] - path[back]
    laps = (times - last) // length
    if shift < 0:
        laps = min(laps, laps_down(ladder, path[last], shift))
    return stepped(ladder, path[last] + laps * shift, times - last - laps * length)


def settles_evenly(ladder, day):
    """Return what `settles` does of a ladder as fast as days."""
    path, back = lap(ladder, day)
    last = len(path) - 1
    if back is None:
        return last, 1, 0
    length, shift = last - back, path[last] - path[back]
    if shift > 0:
        # What becomes of the day rises, so it is itself told by a ladder, whose least way is asked for.
        early, turn, rise = shortened((path[:back], path[back:last], shift))
        return len(early), len(turn), rise
    laps = laps_down(ladder, path[last], shift)
    return last + laps * length + times_to_stay(ladder, path[last] + laps * shift), 1, 0


def value(ladder, day):
    """Return what a ladder tells of a day."""
    check_ladders([ladder])
    check_numbers([day])
    return told_at(ladder, day)


def least_ladder(ladder):
    """Return a ladder in its least way."""
    check_ladders([ladder])
    return shortened(ladder)


def joined(one, other):
    """Return the ladder of what the other one tells of what the one tells."""
    check_ladders([one, other])
    one, other = shortened(one), shortened(other)
    turns = len(other[1]) // gcd(one[2], len(other[1]))
    length, start = len(one[1]) * turns, len(one[0])
    while one[2] > 0 and told_at(one, start) < len(other[0]):
        start += 1
    numbers = [told_at(other, number) for number in first_numbers(one, start + length)]
    return cut(numbers, length, risen(other, one[2] * turns))


def earlier(one, other):
    """Return the ladder of the lesser of what two tell."""
    check_ladders([one, other])
    slow, fast = by_speed(shortened(one), shortened(other))
    days, length, rise = reach(slow, fast, slow)
    pairs = zip(first_numbers(slow, days), first_numbers(fast, days))
    return cut([min(here, there) for here, there in pairs], length, rise)


def later(one, other):
    """Return the ladder of the greater of what two tell."""
    check_ladders([one, other])
    slow, fast = by_speed(shortened(one), shortened(other))
    days, length, rise = reach(slow, fast, fast)
    pairs = zip(first_numbers(slow, days), first_numbers(fast, days))
    return cut([max(here, there) for here, there in pairs], length, rise)


def plus(one, other):
    """Return the ladder of the sum of what two tell."""
    check_ladders([one, other])
    one, other = shortened(one), shortened(other)
    start, length = shared(one, other)
    pairs = zip(first_numbers(one, start + length), first_numbers(other, start + length))
    return cut([here + there for here, there in pairs], length, risen(one, length) + risen(other, length))


def first_from(ladder):
    """Return the ladder that tells, of a number, the first day of which a ladder tells at least this number."""
    days, length, rise = turned(ladder)
    return cut(days, length, rise)


def until(ladder):
    """Return the ladder that tells, of a number, how many days there are of which a ladder tells at most it."""
    days, length, rise = turned(ladder)
    # The days that tell at most a number are those ahead of the first one that tells at least the next number.
    return cut(days[1:], length, rise)


def alike(one, other):
    """Return True if two ladders tell the same of all days, otherwise False."""
    return first_unlike(one, other) is None


def first_unlike(one, other):
    """Return the first day of which two ladders do not tell the same, None if there is none."""
    check_ladders([one, other])
    # Two rounds whose steps agree for as many days as both are long together agree on all days.
    days = max(len(one[0]), len(other[0])) + len(one[1]) + len(other[1]) + 1
    for day, (here, there) in enumerate(zip(first_numbers(one, days), first_numbers(other, days))):
        if here != there:
            return day
    return None


def first_less(one, other):
    """Return the first day of which the one tells less than the other one, None if there is none."""
    check_ladders([one, other])
    numbers, start, gain = excesses(shortened(one), shortened(other))
    days = [day for day, number in enumerate(numbers) if number < 0]
    if gain < 0:
        length = len(numbers) - start
        # So many rounds pass until the loss has used up what this day has left.
        ahead = [day for day in range(start, len(numbers)) if numbers[day] >= 0]
        days.extend([day + length * (numbers[day] // -gain + 1) for day in ahead])
    return min(days, default=None)


def apart(one, other):
    """Return (least, greatest) of what the one tells less what the other one tells, None for one without end."""
    check_ladders([one, other])
    numbers, _, gain = excesses(shortened(one), shortened(other))
    least = min(numbers) if gain >= 0 else None
    greatest = max(numbers) if gain <= 0 else None
    return least, greatest


def speed(ladder):
    """Return the fraction of the rise and the length of the round."""
    check_ladders([ladder])
    common = gcd(ladder[2], len(ladder[1]))
    return ladder[2] // common, len(ladder[1]) // common


def power(ladder, times):
    """Return the ladder done so many times, from 0 on, each of what the one before tells."""
    check_ladders([ladder])
    check_numbers([times])
    result = ([], [0], 1)
    for _ in range(times):
        result = joined(result, ladder)
    return result


def after(ladder, day, times):
    """Return what so many times make of a day."""
    check_ladders([ladder])
    check_numbers([day, times])
    if as_fast_as_days(ladder):
        return after_evenly(ladder, day, times)
    return stepped(ladder, day, times)


def still(ladder):
    """Return the set of the days of which a ladder tells themselves."""
    check_ladders([ladder])
    early, turn, rise = ladder
    if not as_fast_as_days(ladder):
        return ended(still_days(ladder))
    days = [day for day, number in enumerate(early) if number == day]
    found = [place for place, number in enumerate(turn) if number == len(early) + place]
    return narrowed((days, len(early), len(turn), found))


def settles(ladder, day):
    """Return (times, length, shift): from `times` on, as few as can be, `length` times more, as few as can be,
    always make what the day had become greater by `shift`; None if there is none."""
    check_ladders([ladder])
    check_numbers([day])
    if as_fast_as_days(ladder):
        return settles_evenly(ladder, day)
    # A day that a faster ladder makes later comes to stay at the next day that stays, or never does.
    leaves = ladder[2] > len(ladder[1]) and told_at(ladder, day) > day
    if leaves and all([kept < day for kept in still_days(ladder)]):
        return None
    return times_to_stay(ladder, day), 1, 0
