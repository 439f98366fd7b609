"""Terms: lists of steps from day to day, each of which is a ladder, never before its day and as fast as the days."""

from math import lcm

from ladderdays.days import counts, nth_days
from ladderdays.errors import InvalidNumber, NoDays
from ladderdays.feasts import check_feast, feast_days, known_in, names_in
from ladderdays.ladders import apart, earlier, first_less, joined, later
from ladderdays.rounds import check_numbers, told_at


def goes_to_feast(step):
    """Tell whether a step goes to a day of a feast."""
    return step[0] in ("to", "work")


def chooses(step):
    """Tell whether a step goes to the earlier or the later of what two terms make."""
    return step[0] in ("earlier", "later")


def check_steps(names, steps):
    """Raise the first error of steps, whose feasts may name those that have these names."""
    for step in steps:
        least = 1 if step[0] == "work" else 0
        if chooses(step):
            check_steps(names, step[1] + step[2])
        elif step[0] != "to" and step[1] < least:
            raise InvalidNumber(step[1])
        if goes_to_feast(step):
            check_feast(names, step[-1])


def with_sets(calendar, known, term):
    """Return a term with the sets of the days of its feasts in the place of the feasts."""
    steps = []
    for step in term:
        if chooses(step):
            steps.append((step[0], with_sets(calendar, known, step[1]), with_sets(calendar, known, step[2])))
        elif goes_to_feast(step):
            steps.append(step[:-1] + (feast_days(calendar, known, step[-1]),))
        else:
            steps.append(step)
    return steps


def check_ends(steps):
    """Raise NoDays for the first set that has an end to which a step goes."""
    for step in steps:
        if chooses(step):
            check_ends(step[1] + step[2])
        elif goes_to_feast(step) and not step[-1][3]:
            raise NoDays(step[-1])


def tried(almanac, terms):
    """Return terms with the sets of their feasts in the place of these, each tried ahead of the ones behind it."""
    told = []
    for term in terms:
        check_steps(names_in(almanac), term)
        steps = with_sets(almanac.calendar, known_in(almanac), term)
        check_ends(steps)
        told.append(steps)
    return told


def ladder_by(calendar, step):
    """Return the ladder of a step."""
    word = step[0]
    if word == "days":
        return [], [step[1]], 1
    if word == "months":
        return calendar.months_on(step[1])
    if word == "years":
        return calendar.years_on(step[1])
    if word == "to":
        return joined(counts(step[1]), nth_days(step[1]))
    if word == "work":
        return chain([([], [1], 1), counts(step[2]), ([], [step[1] - 1], 1), nth_days(step[2])])
    if word == "not before":
        return [step[1]] * step[1], [step[1]], 1
    one, other = [chain(ladders_by(calendar, part)) for part in step[1:]]
    return earlier(one, other) if word == "earlier" else later(one, other)


def ladders_by(calendar, steps):
    """Return the ladders of steps."""
    return [ladder_by(calendar, step) for step in steps]


def chain(ladders):
    """Return the ladder of ladders done one behind the other."""
    whole = ([], [0], 1)
    for ladder in ladders:
        whole = joined(whole, ladder)
    return whole


def walked(ladders, day):
    """Return what ladders, done one behind the other, make of a day."""
    for ladder in ladders:
        day = told_at(ladder, day)
    return day


def make_the_same(ones, others):
    """Tell whether the ones, done one behind the other, make the same of all days as the other ones."""
    first, length = 0, 1
    for ladder in ones + others:
        first, length = max(first, len(ladder[0])), lcm(length, len(ladder[1]))
    # As no ladder of a step makes a day earlier, all come over and over from the last of their beginnings on. Most
    # that are unlike part at once, so that less is done here than where their ladders were made.
    for day in range(first + length):
        if walked(ones, day) != walked(others, day):
            return False
    return True


def ladders_of(almanac, terms):
    """Return the ladders of terms, each tried ahead of the ones behind it."""
    return [chain(ladders_by(almanac.calendar, steps)) for steps in tried(almanac, terms)]


def due(almanac, term, day):
    """Return what a term makes of a day."""
    ladders = ladders_by(almanac.calendar, tried(almanac, [term])[0])
    check_numbers([day])
    return walked(ladders, day)


def ladder_of(almanac, term):
    """Return the ladder of a term."""
    return ladders_of(almanac, [term])[0]


def never_later(almanac, one, other):
    """Return True if the one is never later than the other one, otherwise False."""
    return first_later(almanac, one, other) is None


def first_later(almanac, one, other):
    """Return the first day of which the one is later than the other one, None if there is none."""
    here, there = ladders_of(almanac, [one, other])
    return first_less(there, here)


def slack(almanac, one, other):
    """Return the tuple (least, greatest) of how many days later the other one is than the one."""
    here, there = ladders_of(almanac, [one, other])
    return apart(there, here)


def last_start(almanac, term, day):
    """Return the last day of which a term makes at most a day, None if there is none."""
    ladders = ladders_by(almanac.calendar, tried(almanac, [term])[0])
    check_numbers([day])
    # What a term makes of a later day than this one is too late, as no term makes a day earlier.
    low, high = 0, day + 1
    while low < high:
        middle = (low + high) // 2
        if walked(ladders, middle) <= day:
            low = middle + 1
        else:
            high = middle
    return low - 1 if low > 0 else None


def passing(almanac, one, other):
    """Return True if two terms one behind the other make the same in either order, otherwise False."""
    here, there = ladders_of(almanac, [one, other])
    return make_the_same([here, there], [there, here])


def needless_steps(almanac, term):
    """Return the ascending list of the indexes of the steps each of which the term can do without and makes the same
    of all days."""
    ladders = ladders_by(almanac.calendar, tried(almanac, [term])[0])
    return [at for at in range(len(ladders)) if make_the_same(ladders[:at] + ladders[at + 1:], ladders)]


def shortest(almanac, steps, term, most):
    """Return the first list, by length and then as lists, of indexes of steps, each as often as one likes, at most
    so many in all, that make the ladder of a term; None if there is none."""
    listed, wanted = [ladders_by(almanac.calendar, told) for told in tried(almanac, [steps, term])]
    check_numbers([most])
    ways = [[]]
    while ways:
        for way in ways:
            if make_the_same([listed[at] for at in way], wanted):
                return way
        if len(ways[0]) == most:
            return None
        ways = [way + [at] for way in ways for at in range(len(listed))]
    return None


def spread(almanac, term):
    """Return the tuple (least, greatest) of how many days later than the day a term is."""
    return apart(ladder_of(almanac, term), ([], [0], 1))
