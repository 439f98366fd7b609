"""The section `ladderdays/rosters.py`, against a plain going day by day."""

import random
import unittest
from itertools import combinations
from math import lcm

from ladderdays.days import every, has, least_set, moved
from ladderdays.errors import DoubleName, InvalidLadder, InvalidName, InvalidNumber, InvalidRow, InvalidSet, UnknownName
from ladderdays.rosters import (ahead, breaches, days_with, exchanged, exchanges, fewest, row_of, strength, thin_days,
                                turning, workers)
from ladderdays.sums import first_over
from tests.plain import (Case, days_of, draw_set, numbers_of, set_again, set_from, set_has, set_least, settled)
from tests.tally import BAD_BOUNDS, BAD_ROWS, draw_bound, draw_row, plain_extreme, row_from, stretch_sums

NONE = ([], 0, 1, [])
ALL = ([], 0, 1, [0])
NAMES = ["ann", "bob", "cid", "a", "zzzzzzzz", "dora"]
BAD_NAMES = ["", "ninechars", "Ann", "a1", "a b", "bob-", "_", "\u00e9"]
BAD_SETS = [([3], 3, 1, [0]), ([1, 1], 5, 2, [0]), ([], 0, 2, [2]), ([], 0, 0, []), ([], -1, 1, []), ([-1], 3, 1, []),
            ([5, 4], 9, 1, [])]
FREE = ([], [0], 30)
NEVER = ([], [0], 0)


def draw_roster(chance, most_names=4, most_first=4, most_length=4):
    names = chance.sample(NAMES, chance.randint(0, most_names))
    roster = []
    for name in names:
        told = draw_set(chance, most_first, most_length)
        if roster and chance.random() < 0.15:
            told = chance.choice(roster)[1]
        roster.append((name, set_again(told, chance.choice([0, 0, 2]), chance.choice([1, 1, 2]))))
    return roster


def rosters(seed, times, least=0, **limits):
    chance = random.Random(seed)
    for _ in range(times):
        roster = draw_roster(chance, **limits)
        if len(roster) >= least:
            yield roster


def span(sets):
    return max([told[1] for told in sets], default=0), lcm(*[told[2] for told in sets])


def columns(sets, many):
    """For each of so many days, which of the sets have it."""
    rows = [days_of(told, many) for told in sets]
    return [[row[day] for row in rows] for day in range(many)]


def set_by(sets, rule):
    first, length = span(sets)
    return set_from([rule(column) for column in columns(sets, first + 2 * length)], first, length)


def bits_row(told):
    bits = [int(bit) for bit in days_of(told, told[1] + 2 * told[2])]
    return row_from(bits, told[1], told[2])


def plain_beyond(row, bound, choose, beyond):
    extreme = plain_extreme(row, choose)
    many = settled(extreme, bound) + len(extreme[1]) + len(bound[1])
    for length, told in enumerate(numbers_of(bound, many)):
        for day, total in enumerate(stretch_sums(row, length, len(row[0]) + len(row[1]))):
            if beyond(total, told):
                return length, day
    return None


def over(row, bound):
    return plain_beyond(row, bound, max, lambda total, told: total > told)


def under(row, bound):
    return plain_beyond(row, bound, min, lambda total, told: total < told)


def plain_exchange(one, other, day, later):
    """The sets behind an exchange, None if the days cannot be exchanged."""
    able = [set_has(one, day), not set_has(other, day), set_has(other, later), not set_has(one, later)]
    if not all(able):
        return None
    sets = []
    for told, gone, come in ((one, day, later), (other, later, day)):
        first = max(told[1], gone + 1, come + 1)
        bits = days_of(told, first + 2 * told[2])
        bits[gone], bits[come] = False, True
        sets.append(set_from(bits, first, told[2]))
    return sets


class Rows(Case):
    def test_row_of(self):
        chance = random.Random(1101)
        for _ in range(300):
            told = set_again(draw_set(chance, 6, 6), chance.choice([0, 0, 2]), chance.choice([1, 1, 3]))
            self.answers(row_of, (told,), bits_row(told))
        for told, wanted in ((NONE, ([], [0])), (ALL, ([], [1])), (([0, 1], 9, 3, []), ([1, 1], [0])),
                             (([], 5, 2, [0, 1]), ([0] * 5, [1])), (([], 60, 12, [11]), ([0] * 60, [0] * 11 + [1]))):
            if told != ([], 60, 12, [11]):
                self.answers(row_of, (told,), wanted)
            else:
                self.answers(row_of, (told,), row_from(wanted[0] + wanted[1] * 2, 60, 12))

    def test_days_with(self):
        chance = random.Random(1102)
        for _ in range(300):
            early, turn = draw_row(chance)
            row = [number - chance.randint(0, 3) for number in early], [number - chance.randint(0, 3) for number in turn]
            for number in (0, 1, 2, 4, 10 ** 31):
                numbers = row[0] + row[1] * 2
                self.answers(days_with, (row, number),
                             set_from([told >= number for told in numbers], len(row[0]), len(row[1])))

    def test_there_and_back(self):
        chance = random.Random(1103)
        for _ in range(100):
            told = draw_set(chance, 6, 6)
            self.told(days_with(row_of(told), 1), set_least(told))
            self.told(days_with(row_of(told), 0), ALL)
            self.told(days_with(row_of(told), 2), NONE)

    def test_of_the_greatest_size(self):
        chance = random.Random(1104)
        row = ([chance.randint(-10 ** 9, 10 ** 9) for _ in range(60)], [chance.randint(-5, 5) for _ in range(59)])
        self.answers(days_with, (row, 3), set_from([told >= 3 for told in row[0] + row[1] * 2], 60, 59))
        told = (sorted(chance.sample(range(60), 20)), 60, 59, sorted(chance.sample(range(59), 20)))
        self.answers(row_of, (told,), bits_row(told))


class Working(Case):
    def test_workers(self):
        for roster in rosters(1111, 150):
            for day in list(range(12)):
                self.answers(workers, (roster, day), sorted(name for name, told in roster if set_has(told, day)))
        roster = [("b", every(7, 3)), ("a", every(5, 0)), ("c", NONE), ("d", ([4], 5, 1, []))]
        self.answers(workers, (roster, 10 ** 31), ["a", "b"])
        self.answers(workers, (roster, 10 ** 31 + 5), ["a"])
        self.answers(workers, (roster, 7 * 10 ** 30 + 3), ["b"])
        self.answers(workers, (roster, 35 * 10 ** 29 + 10), ["a", "b"])
        self.answers(workers, (roster, 35 * 10 ** 29 + 9), [])
        self.answers(workers, ([], 3), [])

    def test_strength_and_thin_days(self):
        for roster in rosters(1112, 250):
            sets = [told for _, told in roster]
            first, length = span(sets)
            many = [sum(column) for column in columns(sets, first + 2 * length)] if sets else [0, 0]
            self.answers(strength, (roster,), row_from(many, first, length))
            for number in (0, 1, 2, 3, 10 ** 31):
                self.answers(thin_days, (roster, number),
                             set_from([found < number for found in many], first, length))

    def test_by_hand(self):
        self.answers(strength, ([],), ([], [0]))
        self.answers(thin_days, ([], 0), NONE)
        self.answers(thin_days, ([], 1), ALL)
        self.answers(strength, ([("a", every(2, 0)), ("b", every(2, 1)), ("c", ([1], 2, 1, []))],), ([1, 2], [1]))
        six = [(name, every(length, 0)) for name, length in zip(NAMES, (1, 2, 3, 4, 6, 12))]
        self.answers(strength, (six,), ([], [6, 1, 2, 2, 3, 1, 4, 1, 3, 2, 2, 1]))
        self.answers(thin_days, (six, 2), ([], 0, 6, [1, 5]))


class Bounds(Case):
    def test_breaches(self):
        chance = random.Random(1121)
        kinds = [0, 0, 0]
        for roster in rosters(1122, 250):
            above, below = draw_bound(chance, 5, 5), draw_bound(chance, 5, 3)
            wanted = []
            for name, told in roster:
                beyond, less = over(bits_row(told), above), under(bits_row(told), below)
                found = beyond or less
                kinds[0 if beyond else 1 if less else 2] += 1
                if found:
                    wanted.append((name,) + found)
            self.answers(breaches, (roster, above, below), wanted)
        self.assertGreater(min(kinds), 40)

    def test_by_hand(self):
        roster = [("b", ALL), ("a", NONE), ("c", every(2, 1))]
        self.answers(breaches, (roster, FREE, NEVER), [])
        self.answers(breaches, (roster, NEVER, NEVER), [("b", 1, 0), ("c", 1, 1)])
        self.answers(breaches, (roster, FREE, ([], [0], 1)), [("a", 1, 0), ("c", 1, 0)])
        self.answers(breaches, (roster, ([], [0, 1], 1), ([], [0, 0], 1)), [("b", 2, 0), ("a", 2, 0)])
        self.answers(breaches, (roster, ([], [0, 1], 1), ([], [0], 1)), [("b", 2, 0), ("a", 1, 0), ("c", 1, 0)])
        self.answers(breaches, ([], NEVER, NEVER), [])


class Exchanges(Case):
    def test_exchanged(self):
        made = 0
        chance = random.Random(1131)
        for roster in rosters(1132, 400, least=2):
            (name, one), (other, two) = chance.sample(roster, 2)
            given = [day for day in range(16) if set_has(one, day) and not set_has(two, day)]
            taken = [day for day in range(16) if set_has(two, day) and not set_has(one, day)]
            for _ in range(4):
                day = chance.choice(given if given and chance.random() < 0.7 else range(16))
                later = chance.choice(taken if taken and chance.random() < 0.7 else range(16))
                sets = plain_exchange(one, two, day, later)
                if sets:
                    wanted = [(listed, sets[0] if listed == name else sets[1] if listed == other else set_least(told))
                              for listed, told in roster]
                    self.answers(exchanged, (roster, name, day, other, later), wanted)
                    self.told(strength(wanted), strength(roster))
                    # The other way round it is taken back.
                    back = exchanged(wanted, other, day, name, later)
                    self.told(back, [(listed, set_least(told)) for listed, told in roster])
                    made += 1
                else:
                    wrong = day if not set_has(one, day) or set_has(two, day) else later
                    self.refuses(exchanged, (roster, name, day, other, later), InvalidNumber, wrong)
        self.assertGreater(made, 60)

    def test_exchanged_by_hand(self):
        roster = [("b", every(2, 1)), ("a", every(2, 0)), ("c", ([5], 6, 1, []))]
        self.answers(exchanged, (roster, "a", 60, "b", 3),
                     [("b", plain_exchange(every(2, 0), every(2, 1), 60, 3)[1]),
                      ("a", plain_exchange(every(2, 0), every(2, 1), 60, 3)[0]), ("c", ([5], 6, 1, []))])
        self.answers(exchanged, (roster, "c", 5, "a", 0),
                     [("b", every(2, 1)), ("a", ([2, 4, 5], 6, 2, [0])), ("c", ([0], 1, 1, []))])
        for day, later, wrong in ((1, 1, 1), (0, 0, 0), (0, 2, 2), (1, 2, 1), (10 ** 31 + 1, 1, 10 ** 31 + 1),
                                  (0, 10 ** 31, 10 ** 31), (10 ** 31, 10 ** 31, 10 ** 31)):
            self.refuses(exchanged, (roster, "a", day, "b", later), InvalidNumber, wrong)

    def test_exchanges(self):
        chance = random.Random(1133)
        found = some = 0
        for roster in rosters(1134, 150, least=2):
            (name, one), (other, two) = chance.sample(roster, 2)
            above = draw_bound(chance, 5, chance.choice([5, 8, 12]))
            before = chance.randint(3, 9)
            wanted = []
            for day in range(before):
                for later in range(before):
                    sets = plain_exchange(one, two, day, later)
                    some += sets is not None
                    if sets and not any(over(bits_row(told), above) for told in sets):
                        wanted.append((day, later))
            found += len(wanted)
            self.answers(exchanges, (roster, name, other, before, above), wanted)
        self.assertTrue(20 < found < some - 20, (found, some))

    def test_exchanges_by_hand(self):
        roster = [("a", every(2, 0)), ("b", every(2, 1))]
        everything = [(day, later) for day in range(0, 12, 2) for later in range(1, 12, 2)]
        self.answers(exchanges, (roster, "a", "b", 12, FREE), everything)
        self.answers(exchanges, (roster, "b", "a", 12, FREE), sorted((later, day) for day, later in everything))
        self.answers(exchanges, (roster, "a", "b", 12, NEVER), [])
        self.answers(exchanges, (roster, "a", "b", 0, FREE), [])
        self.answers(exchanges, ([("a", ALL), ("b", ALL)], "a", "b", 12, FREE), [])
        chance = random.Random(1135)
        roster = [(name, (sorted(chance.sample(range(60), 30)), 60, 12, sorted(chance.sample(range(12), 6))))
                  for name in NAMES]
        above = ([0], [1, 2, 3, 4, 5, 5, 6, 7, 7, 8, 8, 9], 8)
        self.answers(exchanges, (roster, "ann", "cid", 12, above),
                     [(day, later) for day in range(12) for later in range(12)
                      if plain_exchange(roster[0][1], roster[2][1], day, later)
                      and not any(over(bits_row(told), above)
                                  for told in plain_exchange(roster[0][1], roster[2][1], day, later))])

    def test_ahead(self):
        chance = random.Random(1136)
        ends = [0, 0]
        for roster in rosters(1137, 300, least=2):
            (name, one), (other, two) = chance.sample(roster, 2)
            first, length = span([one, two])
            lead, leads = 0, []
            for here, there in columns([one, two], first + 2 * length):
                lead += here - there
                leads.append(lead)
            gain = leads[-1] - leads[-1 - length]
            wanted = min(leads) if gain >= 0 else None, max(leads) if gain <= 0 else None
            ends[0] += None in wanted
            ends[1] += None not in wanted
            self.answers(ahead, (roster, name, other), wanted)
        self.assertGreater(min(ends), 60)

    def test_ahead_by_hand(self):
        roster = [("a", ALL), ("b", NONE), ("c", ([3], 4, 1, [])), ("d", every(2, 0)), ("e", every(2, 1))]
        for name, other, wanted in (("a", "b", (1, None)), ("b", "a", (None, -1)), ("c", "b", (0, 1)),
                                    ("b", "c", (-1, 0)), ("d", "e", (0, 1)), ("e", "d", (-1, 0)), ("a", "d", (0, None))):
            self.answers(ahead, (roster, name, other), wanted)


class Making(Case):
    def test_turning(self):
        chance = random.Random(1141)
        for _ in range(150):
            names, told = chance.sample(NAMES, chance.randint(0, 6)), draw_set(chance)
            step = chance.choice([0, 1, 2, 5, 60])
            wanted, days = [], set_least(told)
            for name in names:
                wanted.append((name, days))
                first, length = days[1] + step, days[2]
                bits = [False] * step + days_of(days, days[1] + 2 * length)
                days = set_from(bits, first, length)
            self.answers(turning, (names, told, step), wanted)

    def test_turning_far(self):
        self.answers(turning, (["a", "b"], ([2], 3, 1, []), 10 ** 30),
                     [("a", ([2], 3, 1, [])), ("b", ([10 ** 30 + 2], 10 ** 30 + 3, 1, []))])
        self.answers(turning, ([], ALL, 3), [])

    def test_fewest(self):
        chance = random.Random(1142)
        none = 0
        for _ in range(250):
            sets = [set_again(draw_set(chance, 3, 3), 0, chance.choice([1, 2])) for _ in range(chance.randint(0, 6))]
            number, most = chance.randint(0, 3), chance.randint(0, 6)
            rows = columns(sets, span(sets)[0] + 2 * span(sets)[1]) if sets else [[]]
            ways = [list(chosen) for many in range(most + 1) for chosen in combinations(range(len(sets)), many)
                    if all(sum(column[at] for at in chosen) >= number for column in rows)]
            self.answers(fewest, (sets, number, most), ways[0] if ways else None)
            none += not ways
        self.assertTrue(60 < none < 200, none)

    def test_fewest_by_hand(self):
        for sets, number, most, wanted in (([], 0, 0, []), ([], 1, 3, None), ([NONE, ALL, ALL], 1, 3, [1]),
                                           ([NONE, ALL, ALL], 2, 3, [1, 2]), ([NONE, ALL, ALL], 2, 1, None),
                                           ([ALL], 0, 10 ** 31, []), ([ALL] * 8, 8, 10 ** 31, list(range(8))),
                                           ([ALL] * 8, 10 ** 31, 8, None),
                                           ([every(2, 0), ([1], 2, 1, []), every(2, 3), every(2, 1)], 1, 4, [0, 3]),
                                           ([every(2, 0), ([1], 2, 1, []), every(2, 3), every(3, 1)], 1, 4, [0, 1, 2])):
            self.answers(fewest, (sets, number, most), wanted)

    def test_fewest_of_the_greatest_size(self):
        sets = [(list(range(first)), 60, length, list(range(length - 1)))
                for first, length in zip(range(60, 52, -1), (5, 7, 8, 9, 11, 12, 10, 6))]
        self.answers(fewest, (sets, 1, 8), None)
        sets = [([], 0, length, list(range(length - 1))) for length in (5, 7, 8, 9, 11, 12, 10, 6)]
        self.answers(fewest, (sets, 1, 8), None)
        sets = [([], 0, length, list(range(1 if at % 2 else 0, length - 1 + at % 2)))
                for at, length in enumerate((5, 7, 8, 9, 11, 12, 10, 6))]
        found = fewest(sets, 1, 8)
        # Rounds without a common divisor meet anywhere, so that none but these two never fail together.
        self.told(found, [2, 5])


class Errors(Case):
    def of_rosters(self, roster):
        """What may be asked of a roster, right but for it."""
        return [(workers, (roster, 3)), (strength, (roster,)), (thin_days, (roster, 1)),
                (breaches, (roster, FREE, NEVER)), (exchanged, (roster, "x", -1, "x", -1)),
                (exchanges, (roster, "x", "y", -1, BAD_BOUNDS[0])), (ahead, (roster, "x", "x")),
                (workers, (roster, -3)), (thin_days, (roster, -1)), (breaches, (roster, BAD_BOUNDS[0], NEVER))]

    def test_names(self):
        for bad in BAD_NAMES:
            for roster in ([(bad, ALL)], [("a", ALL), ("a", BAD_SETS[0]), (bad, ALL), ("A", ALL)], [(bad, ALL), (bad, ALL)]):
                for function, passed in self.of_rosters(roster):
                    self.refuses(function, passed, InvalidName, bad)
            for told in (ALL, BAD_SETS[0]):
                for step in (0, -1):
                    self.refuses(turning, ([bad], told, step), InvalidName, bad)
                    self.refuses(turning, (["a", "a", bad, "B"], told, step), InvalidName, bad)

    def test_double_names(self):
        roster = [("a", BAD_SETS[0]), ("b", ALL), ("c", ALL), ("b", ALL), ("a", ALL)]
        for function, passed in self.of_rosters(roster):
            self.refuses(function, passed, DoubleName, "b")
        self.refuses(turning, (["a", "b", "b", "a"], BAD_SETS[0], -1), DoubleName, "b")

    def test_sets(self):
        for bad in BAD_SETS:
            for roster in ([("a", bad)], [("b", ALL), ("a", bad), ("c", BAD_SETS[1])]):
                for function, passed in self.of_rosters(roster):
                    self.refuses(function, passed, InvalidSet, bad)
            self.refuses(row_of, (bad,), InvalidSet, bad)
            for step in (0, -1):
                self.refuses(turning, (["a", "b"], bad, step), InvalidSet, bad)
                self.refuses(turning, ([], bad, step), InvalidSet, bad)
            for number in (0, -1):
                self.refuses(fewest, ([ALL, bad, BAD_SETS[2]], number, number), InvalidSet, bad)

    def test_rows(self):
        for bad in (([], []), ([3, -1], [])):
            for number in (0, -1):
                self.refuses(days_with, (bad, number), InvalidRow, bad)
        for row in BAD_ROWS:
            if row[1]:
                self.ask(days_with, row, 0)

    def test_unknown_names(self):
        roster = [("a", every(2, 0)), ("b", every(2, 1))]
        for name, other, wrong in (("c", "a", "c"), ("a", "c", "c"), ("c", "d", "c"), ("c", "c", "c"), ("", "a", ""),
                                   ("a", "Ninechars", "Ninechars")):
            for number in (0, -1):
                self.refuses(exchanged, (roster, name, number, other, number), UnknownName, wrong)
                self.refuses(exchanges, (roster, name, other, number, BAD_BOUNDS[0]), UnknownName, wrong)
            self.refuses(ahead, (roster, name, other), UnknownName, wrong)
        self.refuses(ahead, ([], "a", "b"), UnknownName, "a")

    def test_one_and_the_same(self):
        roster = [("a", every(2, 0)), ("b", every(2, 1))]
        for number in (0, -1):
            self.refuses(exchanged, (roster, "b", number, "b", number), DoubleName, "b")
            self.refuses(exchanges, (roster, "b", "b", number, BAD_BOUNDS[0]), DoubleName, "b")
        self.refuses(ahead, (roster, "a", "a"), DoubleName, "a")

    def test_numbers(self):
        roster = [("a", every(2, 0)), ("b", every(2, 1))]
        for number in (-1, -10 ** 31):
            self.refuses(workers, (roster, number), InvalidNumber, number)
            self.refuses(thin_days, (roster, number), InvalidNumber, number)
            self.refuses(days_with, (([], [1]), number), InvalidNumber, number)
            self.refuses(exchanges, (roster, "a", "b", number, BAD_BOUNDS[0]), InvalidNumber, number)
            self.refuses(turning, (["a"], ALL, number), InvalidNumber, number)
            self.refuses(turning, ([], ALL, number), InvalidNumber, number)
            self.refuses(fewest, ([ALL], number, 3), InvalidNumber, number)
            self.refuses(fewest, ([ALL], 3, number), InvalidNumber, number)
            self.refuses(fewest, ([], number, number - 1), InvalidNumber, number)
            # Those below 0 come ahead of those that cannot be exchanged.
            for day, later in ((number, 1), (0, number), (1, number), (number, number - 1), (number, 0)):
                self.refuses(exchanged, (roster, "a", day, "b", later), InvalidNumber, number)

    def test_bounds(self):
        roster = [("a", every(2, 0)), ("b", every(2, 1))]
        for bad in BAD_BOUNDS:
            for listed in (roster, []):
                self.refuses(breaches, (listed, bad, BAD_BOUNDS[1]), InvalidLadder, bad)
                self.refuses(breaches, (listed, FREE, bad), InvalidLadder, bad)
            for before in (0, 12):
                self.refuses(exchanges, (roster, "a", "b", before, bad), InvalidLadder, bad)

    def test_what_is_right(self):
        roster = [("a", ([], 60, 12, [11])), ("abcdefgh", NONE), ("z", ([0], 1, 1, [0]))]
        self.ask(workers, roster, 0)
        self.ask(thin_days, roster, 0)
        self.ask(exchanges, roster, "a", "z", 0, NEVER)
        self.ask(turning, ["a", "z"], NONE, 0)
        self.ask(fewest, [NONE], 0, 0)


class Seams(Case):
    def test_an_exchange_never_changes_the_strength(self):
        for roster in rosters(1151, 60, least=2):
            name, other = roster[0][0], roster[1][0]
            for day, later in exchanges(roster, name, other, 8, FREE):
                behind = exchanged(roster, name, day, other, later)
                self.told(strength(behind), strength(roster))
                self.told(has(dict(behind)[name], later), True)

    def test_breaches_and_exchanges(self):
        chance = random.Random(1152)
        for roster in rosters(1153, 60, least=2):
            above = draw_bound(chance, 4, 4)
            name, other = roster[0][0], roster[1][0]
            found = exchanges(roster, name, other, 8, above)
            for day, later in found:
                behind = exchanged(roster, name, day, other, later)
                for broken, _, _ in breaches(behind, above, NEVER):
                    self.assertNotIn(broken, (name, other))
            for listed, told in roster:
                self.told(first_over(row_of(told), above) is None, listed not in
                          [broken for broken, _, _ in breaches(roster, above, NEVER)])

    def test_turning_is_moving(self):
        self.told(turning(["a", "b", "c"], every(4, 1), 2),
                  [("a", every(4, 1)), ("b", moved(every(4, 1), 2)), ("c", least_set(moved(every(4, 1), 4)))])


if __name__ == "__main__":
    unittest.main()
