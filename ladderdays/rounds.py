"""What the other files share: what is passed is tried, read, copied, and brought into its least way.

The days of a set, counted from 0 on, are told by a ladder, too; so both have one least way.
"""

from ladderdays.errors import InvalidLadder, InvalidNumber, InvalidSet


def never_falls(numbers):
    """Tell whether no number is less than the one before."""
    return all([low <= high for low, high in zip(numbers, numbers[1:])])


def ascends(numbers):
    """Tell whether each number is above the one before."""
    return all([low < high for low, high in zip(numbers, numbers[1:])])


def is_ladder(ladder):
    """Tell whether the numbers of a ladder make it one."""
    early, turn, rise = ladder
    if not turn:
        return False
    # A rise below 0 shows as a number that falls from one round to the next.
    numbers = early + turn + [turn[0] + rise]
    return numbers[0] >= 0 and never_falls(numbers)


def is_set(told):
    """Tell whether the numbers of a set make it one."""
    early, first, length, found = told
    return length >= 1 and ascends([-1] + early + [first]) and ascends([-1] + found + [length])


def copied(thing):
    """Return a thing with new lists in the place of all its lists."""
    if isinstance(thing, list):
        return [copied(part) for part in thing]
    if isinstance(thing, tuple):
        return tuple([copied(part) for part in thing])
    return thing


def lists_upto(many, most):
    """Return, by length and then as lists, the ascending lists of at most so many of the first, so many, indexes."""
    found, longest = [[]], [[]]
    for _ in range(min(many, most)):
        longest = [chosen + [at] for chosen in longest for at in range(chosen[-1] + 1 if chosen else 0, many)]
        found.extend(longest)
    return found


def check_ladders(ladders):
    """Raise InvalidLadder for the first ladder that is none."""
    for ladder in ladders:
        if not is_ladder(ladder):
            raise InvalidLadder(copied(ladder))


def check_sets(sets):
    """Raise InvalidSet for the first set that is none."""
    for told in sets:
        if not is_set(told):
            raise InvalidSet(copied(told))


def check_numbers(numbers):
    """Raise InvalidNumber for the first number below 0."""
    for number in numbers:
        if number < 0:
            raise InvalidNumber(number)


def told_at(ladder, day):
    """Return what a ladder tells of a day."""
    early, turn, rise = ladder
    if day < len(early):
        return early[day]
    behind = day - len(early)
    return turn[behind % len(turn)] + rise * (behind // len(turn))


def first_numbers(ladder, many):
    """Return what a ladder tells of so many first days."""
    early, turn, rise = ladder
    numbers = list(early)
    above = 0
    while len(numbers) < many:
        numbers.extend([number + above for number in turn])
        above += rise
    return numbers[:many]


def repeats(turn, rise, parts):
    """Tell whether a round is so many equal parts, each as much greater than the one before."""
    if len(turn) % parts != 0 or rise % parts != 0:
        return False
    size, step = len(turn) // parts, rise // parts
    return [number + step for number in turn[:-size]] == turn[size:]


def shortest_turn(turn, rise):
    """Return the shortest round, and its rise, that goes on as a round does."""
    parts = 2
    while parts <= len(turn):
        if repeats(turn, rise, parts):
            turn, rise = turn[:len(turn) // parts], rise // parts
        else:
            parts += 1
    return turn, rise


def shortened(ladder):
    """Return a ladder in its least way."""
    early, turn, rise = ladder
    turn, rise = shortest_turn(turn, rise)
    size, start = len(turn), len(early)
    numbers = early + turn
    while start > 0 and numbers[start - 1] + rise == numbers[start - 1 + size]:
        start -= 1
    return numbers[:start], numbers[start:start + size], rise


def ended(days):
    """Return the set of some ascending days."""
    first = days[-1] + 1 if days else 0
    return list(days), first, 1, []


def narrowed(told):
    """Return a set in its least way.

    It goes by the days that are told, not by all that lie between them: sets may lie anywhere.
    """
    early, first, length, found = told
    if not found:
        return ended(early)
    early, days, length = shortened((early, [first + place for place in found], length))
    first = max([-1, days[-1] - length] + early[-1:]) + 1
    return early, first, length, [day - first for day in days]
