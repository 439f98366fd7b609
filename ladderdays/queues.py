"""Queues: things that come by a row of amounts, and offices that do so many of them on each day."""

from math import lcm

from ladderdays.days import parted
from ladderdays.errors import NoDays
from ladderdays.ladders import apart, first_from, joined, shared, until
from ladderdays.rounds import check_numbers, copied, told_at
from ladderdays.sums import added_up, check_amounts, firmest, row_by, row_numbers, tightest


def check_endless(rows):
    """Raise NoDays for the first row whose sum has an end."""
    for row in rows:
        if not any(row[1]):
            raise NoDays(copied(row))


def days_told(rows, many):
    """Return, of each of so many first days, the tuple of what rows tell of it."""
    numbers = [row_numbers(row, many) for row in rows]
    return list(zip(*numbers))


def lefts(left, days):
    """Return how many things are left at the end of each of some days, which tell how many come and can be done."""
    found = []
    for come, can in days:
        left = max(0, left + come - can)
        found.append(left)
    return found


def queue_of(arrivals, office):
    """Return (start, length, gain, left, steady): where the first common round starts, how long it is, and by how much
    more comes in it than can be done; how many are left at the end of each day up to the end of the second round, and
    of each in the second one if nothing was left when the first one started."""
    start, length = shared(arrivals, office)
    days = days_told([arrivals, office], start + 2 * length)
    gain = sum([come - can for come, can in days[start:start + length]])
    return start, length, gain, lefts(0, days), lefts(0, days[start:])[length:]


def done_upto(left, days):
    """Return (numbers, left): how many things are done on each of some days, and how many are left in the end."""
    ends = lefts(left, days)
    return [before + come - end for before, (come, _), end in zip([left] + ends, days, ends)], ([left] + ends)[-1]


def day_reached(ladder, number):
    """Return the first day of which a ladder that rises tells at least a number."""
    low, high = 0, 1
    while told_at(ladder, high) < number:
        high += high
    while low < high:
        middle = (low + high) // 2
        if told_at(ladder, middle) < number:
            low = middle + 1
        else:
            high = middle
    return low


def wait_of(whole, day, number):
    """Return how many days behind a day the last one is done of so many that are there on it; `whole` tells how many
    can be done in so many first days."""
    return day_reached(whole, told_at(whole, day) + number) - 1 - day


def days_ahead(ladder):
    """Return the ladder that tells one day less."""
    early, turn, rise = ladder
    return [number - 1 for number in early], [number - 1 for number in turn], rise


def both_orders(left, days):
    """Return (outs, spares, left): how many are done on each of some days by each of four offices, how many more were
    there than it can do, at least, and how many are left there in the end.

    The first two are two in a row, and the last two are these in the other order.
    """
    outs, spares = [], []
    for come, one, other in days:
        there, out = [left[0] + come, left[1], left[2] + come, left[3]], []
        for at, can in enumerate((one, other, other, one)):
            # What the first one of two has done comes to the second one on the same day.
            if at in (1, 3):
                there[at] += out[at - 1]
            out.append(min(there[at], can))
        spares.append((there[0] - one, there[1] - other, there[2] - other, there[3] - one))
        outs.append(out)
        left = [here - gone for here, gone in zip(there, out)]
    return outs, [min(spare) for spare in zip(*spares)], left


def first_unlike_out(outs):
    """Return the index of the first day on which not as many come out in both orders, None if there is none."""
    return min([at for at, out in enumerate(outs) if out[1] != out[3]], default=None)


def rounds_alike(spares, before, behind):
    """Return how many rounds more go just like the last two, which went alike; None if all do."""
    falls = [(spare, was - now) for spare, was, now in zip(spares, before, behind) if now < was]
    return min([spare // fall for spare, fall in falls], default=None)


def least_leaving(arrivals, most, days):
    """Return the least number that, done each day, leaves at most `most` things undone, besides what it does in so
    many days, at the end of any day."""
    low, high = 0, max(arrivals[0] + arrivals[1])
    while low < high:
        middle = (low + high) // 2
        found = most_undone(arrivals, ([], [middle]))
        if found is not None and found[0] <= most + days * middle:
            high = middle
        else:
            low = middle + 1
    return low


def done(arrivals, office):
    """Return the row of how many things are done on each day."""
    check_amounts([arrivals, office])
    start, length = shared(arrivals, office)
    days = days_told([arrivals, office], start + length)
    numbers, left = done_upto(0, days[:start])
    gain = sum([come - can for come, can in days[start:]])
    before, rounds = None, 0
    # If as many come as can be done, or more, the second round goes on for ever.
    while left != before and (gain < 0 or rounds < 2):
        before, rounds = left, rounds + 1
        more, left = done_upto(before, days[start:])
        numbers.extend(more)
    return row_by(numbers, length)


def undone(arrivals, office, day):
    """Return how many things are there and not done at the end of a day."""
    check_amounts([arrivals, office])
    check_numbers([day])
    start, length, gain, left, steady = queue_of(arrivals, office)
    if day < start + length:
        return left[day]
    rounds, place = divmod(day - start - length, length)
    return max(steady[place], left[start + length + place] + gain * rounds)


def most_undone(arrivals, office):
    """Return the tuple (number, day) of the greatest number undone at the end of a day and of the first such day, None
    if there is no greatest one."""
    check_amounts([arrivals, office])
    _, _, gain, left, _ = queue_of(arrivals, office)
    return None if gain > 0 else (max(left), left.index(max(left)))


def days_of_coming(arrivals):
    """Return the ladder that tells, of a thing, the day on which it comes."""
    check_amounts([arrivals])
    check_endless([arrivals])
    return days_ahead(until(added_up(arrivals)))


def days_done(arrivals, office):
    """Return the ladder that tells, of a thing, the day on which it is done."""
    check_amounts([arrivals, office])
    check_endless([arrivals, office])
    return days_ahead(until(added_up(done(arrivals, office))))


def waits(arrivals, office):
    """Return the tuple (least, greatest) of how many days things wait, None in the place of one that has no end."""
    check_amounts([arrivals, office])
    check_endless([arrivals, office])
    start, length, gain, left, steady = queue_of(arrivals, office)
    come, whole = row_numbers(arrivals, start + 2 * length), added_up(office)
    days = list(zip(range(start + 2 * length), [0] + left))
    if gain < 0:
        # In the end the second round goes as if nothing had been left when the first one started.
        days.extend([(start + length + place, steady[place - 1]) for place in range(length)])
    shortest = min([wait_of(whole, day, before + 1) for day, before in days if come[day] > 0])
    longest = max([wait_of(whole, day, before + come[day]) for day, before in days if come[day] > 0])
    return shortest, longest if gain <= 0 else None


def first_to_wait(arrivals, office, days):
    """Return the first thing that waits at least so many days, None if there is none."""
    check_amounts([arrivals, office])
    check_numbers([days])
    check_endless([arrivals, office])
    if days == 0:
        return 0
    start, length, gain, left, _ = queue_of(arrivals, office)
    whole, late = added_up(office), []
    for day, number in enumerate(left):
        # As many of those that are left at the end of a day are done within so many days of it.
        soon = told_at(whole, day + days) - told_at(whole, day + 1)
        rounds = (soon - number) // gain + 1 if gain > 0 and day >= start + length and number <= soon else 0
        if number + gain * rounds > soon:
            late.append((day + length * rounds, number + gain * rounds - soon))
    if not late:
        return None
    day, many = min(late)
    return told_at(added_up(arrivals), day + 1) - many


def in_a_row(arrivals, offices):
    """Return the list of the rows of how many things are done on each day by offices, each of which does, on the same
    day, too, what the one before has done."""
    check_amounts([arrivals] + offices)
    rows = [arrivals]
    for office in offices:
        rows.append(done(rows[-1], office))
    return rows[1:]


def first_unlike_order(arrivals, one, other):
    """Return the first day by whose end two offices in a row, in the one order and in the other, have not let as many
    things through both; None if there is none."""
    check_amounts([arrivals, one, other])
    start = max(len(arrivals[0]), len(one[0]), len(other[0]))
    length = lcm(len(arrivals[1]), len(one[1]), len(other[1]))
    days = days_told([arrivals, one, other], start + length)
    outs, _, left = both_orders([0, 0, 0, 0], days[:start])
    day, last, unlike = start, None, first_unlike_out(outs)
    if unlike is not None:
        return unlike
    while True:
        outs, spares, behind = both_orders(left, days[start:])
        unlike = first_unlike_out(outs)
        if unlike is not None:
            return day + unlike
        rounds = rounds_alike(spares, left, behind) if outs == last else 0
        if rounds is None:
            return None
        # What is left may be much and grow less by little, so that rounds that go alike are left out.
        day, last = day + length * (rounds + 1), outs
        left = [now + (now - was) * rounds for was, now in zip(left, behind)]


def greatest_undone(above, below):
    """Return the greatest number that can be undone, for all arrivals that keep a bound from above and all offices
    that keep one from below, None if there is none."""
    return apart(tightest(above), firmest(below))[1]


def greatest_wait(above, below):
    """Return the most days that a thing can wait, for all arrivals that keep a bound from above and all offices that
    keep one from below, 0 if nothing can come, None if there is none."""
    come, can = tightest(above), firmest(below)
    if told_at(come, 1) == 0:
        return 0
    if can[2] == 0:
        return None
    # As much as comes in so many days is done in as many as this, at worst.
    return apart(joined(come, first_from(can)), ([], [0], 1))[1]


def least_office(arrivals, most):
    """Return the least number of things that, done each day, leave at most so many undone at the end of any day."""
    check_amounts([arrivals])
    check_numbers([most])
    return least_leaving(arrivals, most, 0)


def office_for(arrivals, days):
    """Return the least number that, done each day, lets no thing wait more than so many days."""
    check_amounts([arrivals])
    check_numbers([days])
    return least_leaving(arrivals, 0, days)


def idle_days(arrivals, office):
    """Return the set of the days on which the office does less than it can."""
    row = done(arrivals, office)
    start, length = shared(row, office)
    days = days_told([row, office], start + length)
    return parted([day for day, (number, can) in enumerate(days) if number < can], start, length)
