"""Rosters: who works on which days, and exchanges of days."""

from math import lcm

from ladderdays.days import but, counts, either, first_patterns, holds, moved, others, parted, set_of
from ladderdays.errors import DoubleName, InvalidNumber, InvalidRow, UnknownName
from ladderdays.feasts import check_names
from ladderdays.ladders import apart, joined
from ladderdays.rounds import check_numbers, check_sets, copied, lists_upto, narrowed
from ladderdays.sums import check_bounds, first_over, first_under, row_by, row_numbers


def check_roster(roster):
    """Raise the first error of a roster."""
    check_names([name for name, _ in roster])
    check_sets([told for _, told in roster])


def check_pair(roster, name, other):
    """Raise the first error of a roster and of two names that stand in it."""
    check_roster(roster)
    for one in (name, other):
        if one not in [listed for listed, _ in roster]:
            raise UnknownName(one)
    if other == name:
        raise DoubleName(other)


def can_give(one, other, day):
    """Tell whether the one can give a day away to the other one."""
    return holds(one, day) and not holds(other, day)


def in_place(told, gone, come):
    """Return a set with one day in the place of another one."""
    return either(but(told, set_of([gone])), set_of([come]))


def keeps(told, above):
    """Tell whether the row of a set keeps a bound from above."""
    return first_over(row_of(told), above) is None


def counts_by_end(told):
    """Return the ladder that tells how many days of a set there are by the end of a day."""
    return joined(([], [1], 1), counts(told))


def row_of(told):
    """Return the row of a set."""
    check_sets([told])
    told = narrowed(told)
    return row_by([1 if holds(told, day) else 0 for day in range(told[1] + told[2])], told[2])


def days_with(row, number):
    """Return the set of the days of which a row tells at least a number."""
    early, turn = row
    if not turn:
        raise InvalidRow(copied(row))
    check_numbers([number])
    return parted([day for day, told in enumerate(early + turn) if told >= number], len(early), len(turn))


def workers(roster, day):
    """Return the ascending list of the names that work on a day."""
    check_roster(roster)
    check_numbers([day])
    return sorted([name for name, told in roster if holds(told, day)])


def strength(roster):
    """Return the row of how many work on each day."""
    check_roster(roster)
    rows, start, length = [row_of(told) for _, told in roster], 0, 1
    for early, turn in rows:
        start, length = max(start, len(early)), lcm(length, len(turn))
    many = [0] * (start + length)
    for row in rows:
        many = [number + more for number, more in zip(many, row_numbers(row, start + length))]
    return row_by(many, length)


def thin_days(roster, number):
    """Return the set of the days on which fewer than a number work."""
    return others(days_with(strength(roster), number))


def breaches(roster, above, below):
    """Return the list, in the order of the roster, of the tuples (name, length, day) of those whose row does not keep
    a bound from above, as `first_over` tells it, or else not a bound from below, as `first_under` does."""
    check_roster(roster)
    check_bounds([above, below])
    found = []
    for name, told in roster:
        row = row_of(told)
        stretch = first_over(row, above) or first_under(row, below)
        if stretch is not None:
            found.append((name, stretch[0], stretch[1]))
    return found


def exchanged(roster, name, day, other, later):
    """Return the roster in which the other one works on a day in the place of the one, and the one on another day,
    before or behind it, in the place of the other one."""
    check_pair(roster, name, other)
    check_numbers([day, later])
    sets = dict(roster)
    one, two = sets[name], sets[other]
    if not can_give(one, two, day):
        raise InvalidNumber(day)
    if not can_give(two, one, later):
        raise InvalidNumber(later)
    sets[name], sets[other] = in_place(one, day, later), in_place(two, later, day)
    return [(listed, narrowed(told)) for listed, told in sets.items()]


def exchanges(roster, name, other, before, above):
    """Return the ascending list of the tuples (day, later), both less than `before`, of exchanges after which both
    keep a bound from above, over all days."""
    check_pair(roster, name, other)
    check_numbers([before])
    check_bounds([above])
    one, two = dict(roster)[name], dict(roster)[other]
    given = [day for day in range(before) if can_give(one, two, day)]
    taken = [day for day in range(before) if can_give(two, one, day)]
    return [(day, later) for day in given for later in taken
            if keeps(in_place(one, day, later), above) and keeps(in_place(two, later, day), above)]


def ahead(roster, name, other):
    """Return the tuple (least, greatest) of how many days more the one has worked by the end of a day than the other
    one, over all days, None in the place of one that has no end."""
    check_pair(roster, name, other)
    sets = dict(roster)
    return apart(counts_by_end(sets[name]), counts_by_end(sets[other]))


def turning(names, told, step):
    """Return the roster of names each of whose days are those of the one ahead so many days later, those of the first
    one a set's."""
    check_names(names)
    check_sets([told])
    check_numbers([step])
    return [(name, moved(told, step * at)) for at, name in enumerate(names)]


def fewest(sets, number, most):
    """Return the first, by length and then as lists, of the ascending lists of at most so many indexes of sets such
    that on each day at least a number of them have it, None if there is none."""
    check_sets(sets)
    check_numbers([number, most])
    patterns = [pattern for _, pattern in first_patterns(sets)]
    for chosen in lists_upto(len(sets), most):
        if all([[pattern[at] for at in chosen].count(True) >= number for pattern in patterns]):
            return chosen
    return None
