"""Diaries: which sets of days fit what was noted, and where to look next."""

from ladderdays.days import both, but, either, first_patterns, holds
from ladderdays.errors import InvalidNote, InvalidNumber, NoDays
from ladderdays.rounds import check_sets, copied, lists_upto, narrowed


def check_notes(notes):
    """Raise InvalidNote for the first note with a day below 0, or whose day was noted otherwise before."""
    noted = {}
    for note in notes:
        day, seen = note
        if day < 0 or noted.get(day, seen) != seen:
            raise InvalidNote(note)
        noted[day] = seen


def fits(told, notes):
    """Tell whether a set fits notes."""
    return all([holds(told, day) == seen for day, seen in notes])


def fit_together(sets, notes):
    """Tell whether the days of any of some sets fit notes."""
    return all([any([holds(told, day) for told in sets]) == seen for day, seen in notes])


def fitting_ones(sets, notes):
    """Return those sets, in their least way, that fit notes, all of them tried first."""
    check_sets(sets)
    check_notes(notes)
    return [narrowed(told) for told in sets if fits(told, notes)]


def unlike_ones(sets):
    """Return sets in their least way without those that are alike to one ahead of them."""
    least = [narrowed(told) for told in sets]
    return [told for at, told in enumerate(least) if told not in least[:at]]


def common_days(sets):
    """Return the set of the days that all of some sets have."""
    whole = sets[0]
    for told in sets[1:]:
        whole = both(whole, told)
    return whole


def fitting_or_none(sets, notes):
    """Return the sets that fit notes; it is an error if none does."""
    found = fitting_ones(sets, notes)
    if not found:
        raise NoDays(copied(sets))
    return found


def first_splits(sets):
    """Return, ascending, the tuples (day, pattern) of the first day of each way in which a look parts sets."""
    found = {}
    for day, pattern in first_patterns(sets):
        # It is the same to a look which part has the day.
        split = tuple([seen == pattern[0] for seen in pattern])
        if split not in found:
            found[split] = day
    return [(day, split) for split, day in found.items()]


def parted_by(lots, split):
    """Return the lots into which things fall, by number, that were in lots and are split once more."""
    numbers = {}
    return tuple([numbers.setdefault(pair, len(numbers)) for pair in zip(lots, split)])


def are_enough(lots, splits, looks, known):
    """Tell whether so many looks can part all things that are in lots; `known` keeps what was found out."""
    greatest = max([lots.count(lot) for lot in lots], default=0)
    if greatest <= 1:
        return True
    if greatest > 1 << looks:
        return False
    if (lots, looks) not in known:
        known[(lots, looks)] = False
        for split in splits:
            if are_enough(parted_by(lots, split), splits, looks - 1, known):
                known[(lots, looks)] = True
                break
    return known[(lots, looks)]


def first_days(lots, firsts, looks, known):
    """Return the first days, so many, on which looks part all things that are in lots."""
    if looks == 0:
        return []
    splits = [split for _, split in firsts]
    # As no day of a shortest list can be left out, its first day is the first one of any shortest list.
    for day, split in firsts:
        further = parted_by(lots, split)
        if are_enough(further, splits, looks - 1, known):
            return [day] + first_days(further, firsts, looks - 1, known)
    return []


def fitting(sets, notes):
    """Return the ascending list of the indexes of the sets that fit notes."""
    check_sets(sets)
    check_notes(notes)
    return [at for at, told in enumerate(sets) if fits(told, notes)]


def surely(sets, notes):
    """Return the set of the days that all fitting ones have."""
    return common_days(fitting_or_none(sets, notes))


def maybe(sets, notes):
    """Return the set of the days that some of the fitting ones have and some have not."""
    found = fitting_or_none(sets, notes)
    whole = found[0]
    for told in found[1:]:
        whole = either(whole, told)
    return but(whole, common_days(found))


def fewest_looks(sets):
    """Return the first, by length and then as lists, of the ascending lists of days such that any two unlike ones of
    some sets differ on a day of the list."""
    check_sets(sets)
    unlike = unlike_ones(sets)
    firsts, known = first_splits(unlike), {}
    lots, looks = tuple([0 for _ in unlike]), 0
    while not are_enough(lots, [split for _, split in firsts], looks, known):
        looks += 1
    return first_days(lots, firsts, looks, known)


def next_look(sets, notes):
    """Return the first of the days on which a note leaves, at worst, the fewest unlike fitting ones; None if fewer
    than two unlike ones fit."""
    unlike = unlike_ones(fitting_ones(sets, notes))
    if len(unlike) < 2:
        return None
    left = [(max(pattern.count(True), pattern.count(False)), day) for day, pattern in first_patterns(unlike)]
    return min(left)[1]


def turns(least, greatest, notes):
    """Return the ascending list of the tuples (length, first), of lengths from a least to a greatest one and firsts
    below the length, whose days first, first + length and so on fit notes."""
    check_notes(notes)
    if least < 1:
        raise InvalidNumber(least)
    return [(length, first) for length in range(least, greatest + 1) for first in range(length)
            if all([(day % length == first) == seen for day, seen in notes])]


def explained(sets, notes):
    """Return the first, by length and then as lists, of the ascending lists of at most 3 indexes of sets that have
    together each day that was noted as seen and none that was noted as not seen, None if there is none."""
    check_sets(sets)
    check_notes(notes)
    for chosen in lists_upto(len(sets), 3):
        if fit_together([sets[at] for at in chosen], notes):
            return chosen
    return None
