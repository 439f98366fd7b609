"""Sums of amounts over stretches of any length, and the bounds that they keep."""

from ladderdays.errors import InvalidLadder, InvalidRow
from ladderdays.ladders import cut, first_less, speed
from ladderdays.rounds import check_numbers, copied, first_numbers, is_ladder, shortened, told_at


def check_amounts(rows):
    """Raise InvalidRow for the first row that is none of amounts."""
    for row in rows:
        early, turn = row
        if not turn or min(early + turn) < 0:
            raise InvalidRow(copied(row))


def check_bounds(bounds):
    """Raise InvalidLadder for the first bound that is none."""
    for bound in bounds:
        if not is_ladder(bound) or told_at(bound, 0) != 0:
            raise InvalidLadder(copied(bound))


def row_numbers(row, many):
    """Return what a row tells of so many first days."""
    return first_numbers((row[0], row[1], 0), many)


def row_by(numbers, length):
    """Return the row that tells some numbers, of which the last ones, so many, come over and over."""
    early, turn, _ = cut(numbers, length, 0)
    return early, turn


def extremes(row, sign):
    """Return the bound that tells the greatest sums of stretches, or, by the sign -1, the least ones."""
    whole = added_up(row)
    many = len(whole[0]) + len(whole[1])
    # A stretch that begins behind the first round has the sum of one that begins a round earlier.
    sums = first_numbers(whole, 2 * many)
    numbers = [sign * max([sign * (high - low) for low, high in zip(sums[:many], sums[length:])])
               for length in range(many)]
    return cut(numbers, len(whole[1]), whole[2])


def stretch_sums(row, length):
    """Return the sums of the stretches of a length from each first day on, up to the end of the first round."""
    whole = added_up(row)
    days = list(range(len(whole[0]) + len(whole[1])))
    return [told_at(whole, day + length) - told_at(whole, day) for day in days]


def is_closed(numbers, size):
    """Tell whether no two lengths below `size` have, each by its number, less than both together."""
    for part in range(1, size):
        if any([both > numbers[part] + rest for rest, both in zip(numbers[part:size], numbers[2 * part:])]):
            return False
    return True


def best_part(numbers):
    """Return the first of the lengths, from 1 on, whose number is the least one by the day."""
    best = 1
    for length in range(2, len(numbers)):
        if numbers[length] * best < numbers[best] * length:
            best = length
    return best


def settling(ladder):
    """Return (start, length, rise): a length from which on the least sums of parts come over and over, how many of
    them do, and their rise."""
    early, turn, rise = ladder
    numbers = early + turn
    best = best_part(numbers)
    lead = numbers[best] * len(turn) - rise * best
    if lead <= 0:
        # Of as many other parts as the best one is long some come to a multiple of its length, and may give way to
        # it; so there are fewer of them, besides one to which rounds are added.
        return (best + 1) * len(numbers), best, numbers[best]
    # Short parts alone lose more and more against one part of the whole length, by the rounds that are added to it.
    loss = max([number * len(turn) - rise * length for length, number in enumerate(turn, start=len(early))])
    return max(len(numbers), loss * best // lead + 1), len(turn), rise


def least_of_parts(ladder, many):
    """Return, of each length below `many`, the least sum of what a ladder tells of parts that make up the length."""
    numbers, size, sums = first_numbers(ladder, many), len(ladder[0]) + len(ladder[1]), [0]
    for length in range(1, many):
        # One part alone may be long: what is added to two by rounds could be added to one of them.
        ways = [numbers[part] + sums[length - part] for part in range(1, min(size, length))]
        sums.append(min(ways + [numbers[length]]))
    return sums


def closure(bound, sign):
    """Return the bound that tells the least sums of what a bound tells of parts of a length, or, by the sign -1, the
    greatest ones."""
    check_bounds([bound])
    early, turn, rise = shortened(bound)
    ladder = [sign * number for number in early], [sign * number for number in turn], sign * rise
    size = len(early) + len(turn)
    if is_closed(first_numbers(ladder, 2 * size), size):
        return early, turn, rise
    start, length, gain = settling(ladder)
    return cut([sign * number for number in least_of_parts(ladder, start + length)], length, sign * gain)


def added_up(row):
    """Return the ladder that tells, of a number, the sum of so many first days."""
    check_amounts([row])
    early, turn = row
    sums = [0]
    for number in early + turn:
        sums.append(sums[-1] + number)
    return cut(sums[:-1], len(turn), sum(turn))


def amounts(bound):
    """Return the row of amounts of which a bound tells the sums of so many first days."""
    check_bounds([bound])
    early, turn, _ = bound
    sums = first_numbers(bound, len(early) + len(turn) + 1)
    return row_by([high - low for low, high in zip(sums, sums[1:])], len(turn))


def most(row):
    """Return the bound that tells, of a length, the greatest sum of stretches."""
    return extremes(row, 1)


def least(row):
    """Return the bound that tells, of a length, the least sum of stretches."""
    return extremes(row, -1)


def where_most(row, length):
    """Return the first day from which a stretch of a length has the greatest sum."""
    check_amounts([row])
    check_numbers([length])
    sums = stretch_sums(row, length)
    return sums.index(max(sums))


def where_least(row, length):
    """Return the first day from which a stretch of a length has the least sum."""
    check_amounts([row])
    check_numbers([length])
    sums = stretch_sums(row, length)
    return sums.index(min(sums))


def first_over(row, bound):
    """Return the tuple (length, day) of the least length for which a stretch has more than a bound tells, and of the
    first such stretch's first day; None if the row keeps the bound from above."""
    check_amounts([row])
    check_bounds([bound])
    length = first_less(bound, most(row))
    if length is None:
        return None
    told = told_at(bound, length)
    return length, min([day for day, total in enumerate(stretch_sums(row, length)) if total > told])


def first_under(row, bound):
    """Return what `first_over` does, of stretches that have less."""
    check_amounts([row])
    check_bounds([bound])
    length = first_less(least(row), bound)
    if length is None:
        return None
    told = told_at(bound, length)
    return length, min([day for day, total in enumerate(stretch_sums(row, length)) if total < told])


def tightest(bound):
    """Return the least bound that all rows keep from above that keep a bound so."""
    return closure(bound, 1)


def firmest(bound):
    """Return the greatest bound that all rows keep from below that keep a bound so."""
    return closure(bound, -1)


def is_tight(bound, length):
    """Return True if a bound tells of a length what its tightest tells, otherwise False."""
    check_bounds([bound])
    check_numbers([length])
    return told_at(bound, length) == told_at(tightest(bound), length)


def is_firm(bound, length):
    """Return True if a bound tells of a length what its firmest tells, otherwise False."""
    check_bounds([bound])
    check_numbers([length])
    return told_at(bound, length) == told_at(firmest(bound), length)


def can_keep(above, below):
    """Return None if some row of amounts keeps the one bound from above and the other one from below, otherwise the
    least length of which the firmest of the one from below tells more than the tightest of the one from above."""
    return first_less(tightest(above), firmest(below))


def row_within(above, below):
    """Return a row that keeps the one bound from above and the other one from below, None if there is none."""
    if can_keep(above, below) is not None:
        return None
    # No stretch can have more in the long run than the tightest bound has by the day, none need have less; so a row
    # that has as much, as evenly as can be, keeps both.
    total, days = speed(tightest(above))
    return amounts(([], [total * day // days for day in range(days)], total))
