"""A plain reckoning of rows, bounds and queues: a going through the stretches, the days and the things one by one.

Nothing here uses the program, so that what it says and what the program says are two things.
"""

from math import lcm

from tests.plain import ladder_from, numbers_of

BAD_ROWS = [([], []), ([3], []), ([-1], [2]), ([], [0, -1]), ([0, 0, -5], [1]), ([4, 10 ** 30], []), ([-10 ** 9], [-1])]
BAD_BOUNDS = [([], [], 0), ([0], [], 3), ([1], [2], 1), ([], [1], 1), ([], [0], -1), ([0, 3, 2], [5], 1),
              ([0], [3, 2], 4), ([0, 1], [2, 9], 6), ([-1], [0], 1), ([], [-1, 0], 1), ([0, 5], [4], 1),
              ([10 ** 30], [10 ** 30], 0)]


# Rows

def row_upto(row, many):
    """What a row tells of so many first days."""
    numbers = list(row[0])
    while len(numbers) < many:
        numbers.extend(row[1])
    return numbers[:many]


def row_number(row, day):
    """What a row tells of a day, near or far."""
    early, turn = row
    return early[day] if day < len(early) else turn[(day - len(early)) % len(turn)]


def row_from(numbers, start, length):
    """The row in its least way, by what it tells; from `start` on it comes again after `length`, as is told."""
    assert len(numbers) >= start + 2 * length
    assert numbers[start:start + length] == numbers[start + length:start + 2 * length]
    turn = numbers[start:start + length]
    size = next(size for size in range(1, length + 1)
                if all(turn[place] == turn[(place + size) % length] for place in range(length)))
    while start > 0 and numbers[start - 1] == numbers[start - 1 + size]:
        start -= 1
    return numbers[:start], numbers[start:start + size]


def row_least(row):
    """A row in its least way."""
    start, length = len(row[0]), len(row[1])
    return row_from(row_upto(row, start + 2 * length), start, length)


def row_again(row, later, more):
    """The same row told in another way."""
    start, length = len(row[0]) + later, len(row[1]) * more
    numbers = row_upto(row, start + length)
    return numbers[:start], numbers[start:]


def draw_row(chance, most_early=4, most_turn=5, most_number=4):
    """Some row, at times with nothing in its beginning or its round, or with much in one of them."""
    share, again = chance.choice([0, 0.5, 1]), chance.choice([0, 0.3, 0.6, 1, 1])
    high, low = chance.choice([1, most_number, 5 * most_number]), chance.choice([1, 2, most_number])
    early = [chance.randint(0, high) if chance.random() < share else 0 for _ in range(chance.randint(0, most_early))]
    turn = [chance.randint(0, low) if chance.random() < again else 0 for _ in range(chance.randint(1, most_turn))]
    return row_again((early, turn), chance.choice([0, 0, 0, 1, 3]), chance.choice([1, 1, 1, 2]))


# Stretches and bounds

def stretch_sums(row, length, days):
    """The sums of the stretches of a length from each of so many first days on."""
    numbers = row_upto(row, days + length)
    return [sum(numbers[day:day + length]) for day in range(days)]


def span_of(row):
    """So many first days that all stretches have the sum of one that begins on one of them."""
    return len(row[0]) + len(row[1])


def plain_extreme(row, choose):
    """The ladder of the greatest or the least sums of stretches of each length."""
    start, length = span_of(row), len(row[1])
    numbers = [choose(stretch_sums(row, size, span_of(row))) for size in range(start + 2 * length)]
    return ladder_from(numbers, start, length)


def closed(bound, many, choose):
    """Of each length below `many` the least, or greatest, sum of what a bound tells of parts of it: for each length
    the one from all pairs of lesser ones that make it up, or the whole."""
    numbers = numbers_of(bound, many)
    for length in range(many):
        pairs = [numbers[part] + numbers[length - part] for part in range(1, length // 2 + 1)]
        numbers[length] = choose(pairs + [numbers[length]])
    return numbers


def draw_bound(chance, most_places=8, most_number=30, far=False):
    """Some bound whose beginning and round have so many places together at most."""
    places = chance.randint(1, most_places)
    start = chance.randint(0, places - 1)
    style = chance.choice(["any", "any", "leaps", "slower", "faster", "none"])
    step = max(1, most_number // places)
    if style == "leaps":
        steps = [chance.choice([0, 0, step]) for _ in range(places)]
    elif style == "none":
        steps = [0] * places
    else:
        steps = [chance.randint(0, step) for _ in range(places)]
    if style in ("slower", "faster"):
        steps = sorted(steps, reverse=style == "slower")
    numbers = [sum(steps[:place]) for place in range(places)]
    least = numbers[-1] - numbers[start]
    rise = min(most_number, least + chance.choice([0, 0, 1, step, chance.randint(0, most_number)]))
    return numbers[:start], numbers[start:], max(rise, least)


# Queues

def ends_of(arrivals, office, many):
    """How many are left at the end of each of so many first days."""
    left, found = 0, []
    for come, can in zip(row_upto(arrivals, many), row_upto(office, many)):
        left += come
        left -= min(left, can)
        found.append(left)
    return found


def outs_of(arrivals, office, many):
    """How many are done on each of so many first days."""
    left, found = 0, []
    for come, can in zip(row_upto(arrivals, many), row_upto(office, many)):
        left += come
        found.append(min(left, can))
        left -= found[-1]
    return found


def things_of(arrivals, office, many):
    """The tuples (day of coming, day of being done) of all things that are done on so many first days, thing by
    thing, and the list of the days of coming of those that stand in line then."""
    line, things = [], []
    for day, (come, can) in enumerate(zip(row_upto(arrivals, many), row_upto(office, many))):
        line.extend([day] * come)
        for _ in range(can):
            if line:
                things.append((line.pop(0), day))
    return things, line


def common_of(rows):
    """Where the rounds of some rows come again together, and after how long."""
    return max(len(row[0]) for row in rows), lcm(*[len(row[1]) for row in rows])


def gain_of(arrivals, office):
    """By how much more comes in a common round than can be done."""
    _, length = common_of([arrivals, office])
    return sum(arrivals[1]) * (length // len(arrivals[1])) - sum(office[1]) * (length // len(office[1]))


def calm_from(arrivals, office):
    """A day from which on things are done over and over in the same way: all that can be left from the beginning is
    gone, or as many come as can be done."""
    start, length = common_of([arrivals, office])
    gain = gain_of(arrivals, office)
    days = start + 2 * length
    if gain < 0:
        days += length * (max(ends_of(arrivals, office, days)) // -gain + 1)
    return days, length
