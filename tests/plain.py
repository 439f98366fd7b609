"""What the tests share: a plain reckoning day by day, drawn sets and ladders, and a way to ask and to be refused.

Nothing here uses the program, so that what it says and what the program says are two things.
"""

import copy
import signal
import unittest
from math import gcd, lcm

SECONDS = 60

PARAMETERS = {
    "has": ["told", "day"],
    "least_set": ["told"],
    "set_of": ["days"],
    "every": ["length", "first"],
    "both": ["one", "other"],
    "either": ["one", "other"],
    "but": ["one", "other"],
    "others": ["told"],
    "moved": ["told", "days"],
    "first_apart": ["one", "other"],
    "meeting": ["one", "other"],
    "next_day": ["told", "day"],
    "counts": ["told"],
    "nth_days": ["told"],
    "gaps": ["told"],
    "value": ["ladder", "day"],
    "least_ladder": ["ladder"],
    "joined": ["one", "other"],
    "earlier": ["one", "other"],
    "later": ["one", "other"],
    "plus": ["one", "other"],
    "first_from": ["ladder"],
    "until": ["ladder"],
    "alike": ["one", "other"],
    "first_unlike": ["one", "other"],
    "first_less": ["one", "other"],
    "apart": ["one", "other"],
    "speed": ["ladder"],
    "power": ["ladder", "times"],
    "after": ["ladder", "day", "times"],
    "still": ["ladder"],
    "settles": ["ladder", "day"],
    "Calendar": ["years"],
    "Calendar.date": ["day"],
    "Calendar.day": ["date"],
    "Calendar.year_starts": [],
    "Calendar.month_starts": [],
    "Calendar.dates": ["month", "day"],
    "Calendar.last_days": [],
    "Calendar.months_on": ["months"],
    "Calendar.years_on": ["years"],
    "Calendar.months": [],
    "Almanac": ["calendar", "feasts"],
    "days_of": ["almanac", "feast"],
    "distances": ["almanac", "one", "other"],
    "never_meeting": ["almanac"],
    "needless": ["almanac"],
    "busiest": ["almanac"],
    "due": ["almanac", "term", "day"],
    "ladder_of": ["almanac", "term"],
    "never_later": ["almanac", "one", "other"],
    "first_later": ["almanac", "one", "other"],
    "slack": ["almanac", "one", "other"],
    "last_start": ["almanac", "term", "day"],
    "passing": ["almanac", "one", "other"],
    "needless_steps": ["almanac", "term"],
    "shortest": ["almanac", "steps", "term", "most"],
    "spread": ["almanac", "term"],
    "fitting": ["sets", "notes"],
    "surely": ["sets", "notes"],
    "maybe": ["sets", "notes"],
    "fewest_looks": ["sets"],
    "next_look": ["sets", "notes"],
    "turns": ["least", "greatest", "notes"],
    "explained": ["sets", "notes"],
    "show_feast": ["feast"],
    "show_term": ["term"],
    "show_calendar": ["calendar"],
    "show_almanac": ["almanac"],
    "show_row": ["row"],
    "show_ladder": ["ladder"],
    "read_feast": ["text"],
    "read_term": ["text"],
    "read_calendar": ["text"],
    "read_almanac": ["text"],
    "read_row": ["text"],
    "read_ladder": ["text"],
    "added_up": ["row"],
    "amounts": ["bound"],
    "most": ["row"],
    "least": ["row"],
    "where_most": ["row", "length"],
    "where_least": ["row", "length"],
    "first_over": ["row", "bound"],
    "first_under": ["row", "bound"],
    "tightest": ["bound"],
    "firmest": ["bound"],
    "is_tight": ["bound", "length"],
    "is_firm": ["bound", "length"],
    "can_keep": ["above", "below"],
    "row_within": ["above", "below"],
    "done": ["arrivals", "office"],
    "undone": ["arrivals", "office", "day"],
    "most_undone": ["arrivals", "office"],
    "days_of_coming": ["arrivals"],
    "days_done": ["arrivals", "office"],
    "waits": ["arrivals", "office"],
    "first_to_wait": ["arrivals", "office", "days"],
    "in_a_row": ["arrivals", "offices"],
    "first_unlike_order": ["arrivals", "one", "other"],
    "greatest_undone": ["above", "below"],
    "greatest_wait": ["above", "below"],
    "least_office": ["arrivals", "most"],
    "office_for": ["arrivals", "days"],
    "idle_days": ["arrivals", "office"],
    "row_of": ["told"],
    "days_with": ["row", "number"],
    "workers": ["roster", "day"],
    "strength": ["roster"],
    "thin_days": ["roster", "number"],
    "breaches": ["roster", "above", "below"],
    "exchanged": ["roster", "name", "day", "other", "later"],
    "exchanges": ["roster", "name", "other", "before", "above"],
    "ahead": ["roster", "name", "other"],
    "turning": ["names", "told", "step"],
    "fewest": ["sets", "number", "most"],
    "Desk": ["almanac"],
    "Desk.forks": [],
    "Desk.names": [],
    "Desk.feast": ["name", "feast"],
    "Desk.term": ["name", "term"],
    "Desk.row": ["name", "row"],
    "Desk.hire": ["name", "feast"],
    "Desk.leave": ["name"],
    "Desk.exchange": ["name", "day", "other", "later"],
    "Desk.branch": ["name"],
    "Desk.switch": ["name"],
    "Desk.undo": [],
    "Desk.due": ["name", "day"],
    "Desk.ladder": ["name"],
    "Desk.line": ["name", "other"],
    "Desk.rested": ["above"],
    "Desk.order": ["text"],
}

# What is asked by a sign, or read off an object, as a function of this file.
SIGNS = {"item": ["thing", "at"], "years_of": ["calendar"], "feasts_of": ["almanac"]}


def item(thing, at):
    return thing[at]


def years_of(calendar):
    return calendar.years


def feasts_of(almanac):
    return almanac.feasts


def names_of(function):
    """The names of the parameters of a function, a class or a method."""
    name = function.__qualname__
    return PARAMETERS[name] if name in PARAMETERS else SIGNS[name]


def stop(number, frame):
    raise AssertionError(f"this took more than {SECONDS} seconds")


def lists_in(thing):
    """All lists in a thing, as they are met, also those within others."""
    if isinstance(thing, list):
        yield thing
    if isinstance(thing, (list, tuple)):
        for part in thing:
            yield from lists_in(part)


def objects_in(thing):
    """All objects of the program in a thing, also those that others hold."""
    if isinstance(thing, (list, tuple)):
        for part in thing:
            yield from objects_in(part)
    elif hasattr(thing, "__dict__") and not callable(thing):
        yield thing
        yield from objects_in(list(vars(thing).values()))


def state(thing):
    """What the objects in a thing hold, as it shows."""
    return [repr(vars(found)) for found in objects_in(thing)]


def held_by(thing):
    """All lists that objects in a thing hold."""
    return [part for found in objects_in(thing) for part in vars(found).values()]


def twin(thing):
    """A copy of a thing, with the same objects in it."""
    return copy.deepcopy(thing, {id(found): found for found in objects_in(thing)})


def spoil(thing):
    """Change every list in a thing."""
    for found in list(lists_in(thing)):
        found.reverse()
        found.insert(0, 77)
        found.append(-5)


class Case(unittest.TestCase):
    """A test that ends in time and knows how to ask."""

    maxDiff = None

    def setUp(self):
        signal.signal(signal.SIGALRM, stop)
        signal.alarm(SECONDS)
        self.addCleanup(signal.alarm, 0)

    def told(self, got, wanted, about=None):
        """The same, to the kind of each value: True is not 1, a tuple is no list."""
        if repr(got) != repr(wanted):
            self.fail(f"{got!r:.900} is not {wanted!r:.900}, of {about!r:.900}")

    def apart_from(self, thing, *others):
        """Each list of a thing stands in one place alone, and in none of other things."""
        mine = list(lists_in(thing))
        self.assertEqual(len({id(found) for found in mine}), len(mine), "a list stands in two places")
        for other in others:
            theirs = {id(found) for found in lists_in(other)}
            self.assertFalse([found for found in mine if id(found) in theirs], "a list is not new")

    def ask(self, function, *passed):
        """What a function answers: by position and by name alike, in new lists, with nothing changed or kept."""
        names = names_of(function)
        self.assertEqual(len(names), len(passed))
        owner = getattr(function, "__self__", None)
        original, before, held = twin(passed), state([owner, passed]), held_by([owner, passed])
        answer = function(*passed)
        wanted = repr(answer)
        self.told(passed, original, "what was passed")
        self.apart_from(answer, passed, held)
        named = dict(reversed(list(zip(names, passed))))
        again = function(**named)
        self.told(passed, original, "what was passed by name")
        self.apart_from(again, passed, answer, held)
        self.assertEqual(repr(again), wanted, "by position and by name unlike")
        kept = copy.deepcopy(answer)
        unspoilt = [(found, list(found)) for found in lists_in(passed)]
        spoil(passed)
        self.assertEqual(repr(answer), wanted, "what was returned changes with what was passed")
        spoil(answer)
        spoil(again)
        fresh = twin(original)
        third = function(*fresh)
        self.assertEqual(repr(third), wanted, "a later answer is unlike")
        self.told(fresh, original, "what was passed later")
        self.told(state([owner, passed]), before, "what objects hold")
        for found, content in unspoilt:
            found[:] = content
        return kept

    def answers(self, function, passed, wanted):
        """A function answers just so."""
        self.told(self.ask(function, *passed), wanted, (function.__name__, passed))

    def refuses(self, function, passed, error, wanted):
        """A function refuses what is passed by just one class of error, with a value that is all its own."""
        owner = getattr(function, "__self__", None)
        original, before, objects = twin(passed), state([owner, passed]), held_by([owner, passed])
        named = dict(reversed(list(zip(names_of(function), passed))))
        held = []
        for call in (lambda: function(*passed), lambda: function(**named), lambda: function(*passed)):
            with self.assertRaises(ValueError, msg=(function.__name__, passed)) as caught:
                call()
            self.assertIs(caught.exception.__class__, error, (function.__name__, passed, caught.exception))
            self.told(caught.exception.value, wanted, (function.__name__, passed))
            self.told(passed, original, "what was passed")
            self.apart_from(caught.exception.value, passed, objects, *held)
            held.append(caught.exception.value)
            spoil(caught.exception.value)
            self.told(passed, original, "what was passed, behind a change of what the error holds")
            self.told(state([owner, passed]), before, "what objects hold")


# Sets, plainly

def days_of(told, end):
    """For each day less than `end`, whether a set has it."""
    early, first, length, found = told
    here, again = set(early), set(found)
    return [day in here or (day >= first and (day - first) % length in again) for day in range(end)]


def set_has(told, day):
    """Whether a set has a day, near or far."""
    early, first, length, found = told
    return day in early or (day >= first and (day - first) % length in found)


def set_from(bits, first, length):
    """The set in its least way, by what it has; from `first` on it comes again after `length`, which
    `bits` show at least twice."""
    assert len(bits) >= first + 2 * length
    while first > 0 and bits[first - 1] == bits[first - 1 + length]:
        first -= 1
    turn = bits[first:first + length]
    for size in range(1, length + 1):
        if all(turn[place] == turn[(place + size) % length] for place in range(length)):
            break
    early = [day for day in range(first) if bits[day]]
    return early, first, size, [place for place in range(size) if turn[place]]


def set_least(told):
    """A set in its least way."""
    _, first, length, _ = told
    return set_from(days_of(told, first + 2 * length), first, length)


def set_again(told, later, more):
    """The same set told in another way: its round begins so much later, and is so many times as long."""
    first, length = told[1] + later, told[2] * more
    bits = days_of(told, first + length)
    return ([day for day in range(first) if bits[day]], first, length,
            [place for place in range(length) if bits[first + place]])


def draw_set(chance, most_first=5, most_length=6):
    """Some set, at times without days in its beginning or its round."""
    first, length = chance.randint(0, most_first), chance.randint(1, most_length)
    share, again = chance.choice([0, 0.3, 0.6, 1]), chance.choice([0, 0.2, 0.4, 0.7, 1])
    return ([day for day in range(first) if chance.random() < share], first, length,
            [place for place in range(length) if chance.random() < again])


# Ladders, plainly

def numbers_of(ladder, many):
    """What a ladder tells of so many first days."""
    early, turn, rise = ladder
    numbers = list(early) + list(turn)
    while len(numbers) < many:
        numbers.append(numbers[-len(turn)] + rise)
    return numbers[:many]


def number_of(ladder, day):
    """What a ladder tells of a day, near or far."""
    early, turn, rise = ladder
    if day < len(early):
        return early[day]
    times, place = divmod(day - len(early), len(turn))
    return turn[place] + times * rise


def orbit(ladder, day, times):
    """A day, and what a ladder makes of it again and again."""
    days = [day]
    for _ in range(times):
        days.append(number_of(ladder, days[-1]))
    return days


def ladder_from(numbers, start, length):
    """The ladder in its least way, by what it tells; from `start` on it comes again, greater, after `length`."""
    assert len(numbers) >= start + 2 * length
    for size in range(1, length + 1):
        rise = numbers[start + size] - numbers[start]
        if length % size == 0 and all(numbers[day + size] == numbers[day] + rise
                                      for day in range(start, start + length)):
            break
    while start > 0 and numbers[start - 1] + rise == numbers[start - 1 + size]:
        start -= 1
    return numbers[:start], numbers[start:start + size], rise


def ladder_least(ladder):
    """A ladder in its least way."""
    start, length = len(ladder[0]), len(ladder[1])
    return ladder_from(numbers_of(ladder, start + 2 * length), start, length)


def ladder_again(ladder, later, more):
    """The same ladder told in another way."""
    start, length = len(ladder[0]) + later, len(ladder[1]) * more
    numbers = numbers_of(ladder, start + length)
    return numbers[:start], numbers[start:], ladder[2] * more


def draw_ladder(chance, pace=None, most_early=4, most_turn=5, most_number=10):
    """Some ladder: its rise 0, or slower than the days, as fast or faster."""
    pace = pace or chance.choice(["none", "slow", "even", "even", "fast"])
    places = chance.randint(1, most_turn)
    if pace == "none":
        rise = 0
    elif pace == "slow":
        rise = chance.randint(0, places - 1)
    elif pace == "even":
        rise = places
    else:
        rise = chance.randint(places + 1, 3 * places)
    steps = [0] * places
    for _ in range(rise):
        steps[chance.choice(range(places)) if chance.random() < 0.7 else 0] += 1
    chance.shuffle(steps)
    number = chance.randint(0, most_number)
    turn = [number + sum(steps[:place]) for place in range(places)]
    early = sorted(chance.randint(0, number) for _ in range(chance.randint(0, most_early)))
    return early, turn, rise


def together(one, other):
    """Where the rounds of two ladders come again together, and after how long."""
    return max(len(one[0]), len(other[0])), lcm(len(one[1]), len(other[1]))


def settled(one, other):
    """A day from which it is always the same one of two ladders that tells more, or they come again together."""
    start, length = together(one, other)
    gain = abs(length // len(one[1]) * one[2] - length // len(other[1]) * other[2])
    if gain == 0:
        return start
    here, there = numbers_of(one, start + length), numbers_of(other, start + length)
    most = max(abs(low - high) for low, high in zip(here[start:], there[start:]))
    return start + length * (most // gain + 2)


def agreeing(size, more):
    """Two lists of bits, as long as told, that agree, each over and over, for as long as unlike ones can."""
    assert gcd(size, more) == 1
    heads = list(range(size + more - 2))

    def head(place):
        while heads[place] != place:
            place = heads[place]
        return place

    for place in range(len(heads)):
        for step in (size, more):
            if place + step < len(heads):
                heads[head(place + step)] = head(place)
    bits = [head(place) == head(0) for place in range(len(heads))]
    return bits[:size], bits[:more]
