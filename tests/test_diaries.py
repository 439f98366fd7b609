"""The section `ladderdays/diaries.py`, against a plain reckoning day by day and list by list."""

import random
import unittest
from itertools import combinations
from math import lcm

from ladderdays.days import every, first_apart, has, least_set, meeting
from ladderdays.diaries import explained, fewest_looks, fitting, maybe, next_look, surely, turns
from ladderdays.errors import InvalidNote, InvalidNumber, InvalidSet, NoDays
from ladderdays.ladders import still
from tests.plain import Case, days_of, draw_set, set_again, set_from, set_has, set_least

NONE = ([], 0, 1, [])
ALL = ([], 0, 1, [0])
BAD_SETS = [([3], 3, 1, [0]), ([1, 1], 5, 2, [0]), ([], 0, 2, [2]), ([], 0, 0, []), ([], -1, 1, []), ([-1], 3, 1, [])]


def fits(told, notes):
    return all(set_has(told, day) == seen for day, seen in notes)


def span(sets):
    """Where the rounds of sets come again together, and after how long."""
    return max([told[1] for told in sets], default=0), lcm(*[told[2] for told in sets])


def patterns(sets):
    """For each day that settles all, which of some sets have it."""
    first, length = span(sets)
    return list(zip(*[days_of(told, first + 2 * length) for told in sets]))


def unlike(sets):
    least = []
    for told in sets:
        if set_least(told) not in least:
            least.append(set_least(told))
    return least


def plain_looks(sets):
    ones = unlike(sets)
    if len(ones) < 2:
        return []
    rows = patterns(ones)
    firsts = [day for day, row in enumerate(rows) if rows.index(row) == day]
    for many in range(len(ones)):
        for days in combinations(firsts, many):
            seen = list(zip(*[rows[day] for day in days])) if days else [()] * len(ones)
            if len(set(seen)) == len(ones):
                return list(days)
    raise AssertionError("these differ nowhere")


def plain_next(sets, notes):
    ones = unlike([told for told in sets if fits(told, notes)])
    if len(ones) < 2:
        return None
    worst = [max(row.count(True), row.count(False)) for row in patterns(ones)]
    return worst.index(min(worst))


def plain_set(sets, rule):
    rows = patterns(sets)
    return set_from([rule(row) for row in rows], *span(sets))


def plain_explained(sets, notes):
    for many in range(4):
        for chosen in combinations(range(len(sets)), many):
            if all(any(set_has(sets[at], day) for at in chosen) == seen for day, seen in notes):
                return list(chosen)
    return None


def draw_notes(chance, sets, most=6, far=14):
    """Some notes: at times of what one of the sets has, at times some told twice, in any order."""
    days = [chance.randint(0, far) for _ in range(chance.randint(0, most))]
    told = chance.choice(sets) if sets and chance.random() < 0.6 else draw_set(chance)
    seen = {day: set_has(told, day) for day in days}
    return [(day, seen[day]) for day in days]


def draw_sets(chance, many):
    """Some sets, told in several ways, some alike, some without a day, some with an end."""
    sets = []
    for _ in range(many):
        told = draw_set(chance, 4, chance.choice([1, 2, 3, 4]))
        if sets and chance.random() < 0.2:
            told = chance.choice(sets)
        if chance.random() < 0.1:
            told = NONE
        sets.append(set_again(told, chance.randint(0, 2), chance.randint(1, 2)))
    return sets


def drawn(seed, times, most_sets=5):
    chance = random.Random(seed)
    for _ in range(times):
        sets = draw_sets(chance, chance.randint(0, most_sets))
        yield sets, draw_notes(chance, sets)


class Fitting(Case):
    def test_drawn(self):
        for sets, notes in drawn(801, 400, 8):
            self.answers(fitting, (sets, notes), [at for at, told in enumerate(sets) if fits(told, notes)])

    def test_by_hand(self):
        sets = [every(3, 0), NONE, ALL, ([5], 6, 1, []), ([0, 1, 2, 3], 4, 1, [0])]
        for notes, wanted in (([], [0, 1, 2, 3, 4]), ([(5, True)], [2, 3, 4]), ([(5, False)], [0, 1]),
                              ([(5, True), (6, False)], [3]), ([(10 ** 31, True)], [2, 4]),
                              ([(10 ** 31 - 1, True), (10 ** 31, False)], [0]), ([(3 * 10 ** 30, True)], [0, 2, 4]),
                              ([(7, False), (7, False), (0, True), (7, False)], [0])):
            self.answers(fitting, (sets, notes), wanted)
        self.answers(fitting, ([], [(3, True)]), [])

    def test_any_order_and_twice(self):
        chance = random.Random(802)
        for sets, notes in drawn(803, 100):
            wanted = fitting(sets, notes)
            more = notes + notes[:3]
            chance.shuffle(more)
            self.answers(fitting, (sets, more), wanted)


class SurelyAndMaybe(Case):
    def test_drawn(self):
        done = 0
        for sets, notes in drawn(811, 500):
            ones = [told for told in sets if fits(told, notes)]
            if ones:
                self.answers(surely, (sets, notes), plain_set(ones, all))
                self.answers(maybe, (sets, notes), plain_set(ones, lambda row: any(row) and not all(row)))
                done += 1
            else:
                self.refuses(surely, (sets, notes), NoDays, sets)
                self.refuses(maybe, (sets, notes), NoDays, sets)
        self.assertGreater(done, 250)

    def test_one_alone(self):
        self.answers(surely, ([([2], 4, 6, [0, 3])], []), ([2], 3, 3, [1]))
        self.answers(maybe, ([([2], 4, 6, [0, 3])], []), NONE)
        self.answers(surely, ([NONE, ALL], [(0, False)]), NONE)
        self.answers(surely, ([NONE, ALL], [(10 ** 31, True)]), ALL)
        self.answers(maybe, ([NONE, ALL], []), ALL)
        self.answers(surely, ([NONE, ALL], []), NONE)
        self.answers(maybe, ([ALL, ([0, 1], 2, 3, [0, 1, 2])], []), NONE)

    def test_sets_that_lie_anywhere(self):
        far = [([], [0], 2), ([10 ** 30] * 4, [10 ** 30], 0), ([], [0, 10 ** 30, 2 * 10 ** 30], 3 * 10 ** 30)]
        sets = [still(ladder) for ladder in far]
        self.told(sets[1], ([10 ** 30], 10 ** 30 + 1, 1, []))
        self.answers(surely, (sets[1:2] * 2 + [every(5, 0)], []), sets[1])
        self.answers(maybe, (sets[:2], []), ([0, 10 ** 30], 10 ** 30 + 1, 1, []))
        self.answers(surely, (sets[:2], [(0, False)]), sets[1])

    def test_of_the_greatest_size(self):
        one = (list(range(0, 60, 7)), 60, 50, [1, 2, 30])
        other = (list(range(1, 57, 3)), 57, 40, [0, 5, 39])
        self.answers(surely, ([one, other], []), plain_set([one, other], all))
        self.answers(maybe, ([one, other], []), plain_set([one, other], lambda row: row[0] != row[1]))


class FewestLooks(Case):
    def test_drawn(self):
        for sets, _ in drawn(821, 250):
            self.answers(fewest_looks, (sets,), plain_looks(sets))

    def test_by_hand(self):
        for sets, wanted in (([], []), ([ALL], []), ([NONE, NONE], []), ([ALL, ([0], 1, 2, [0, 1])], []),
                             ([NONE, ALL], [0]), ([every(2, 0), every(2, 1)], [0]), ([every(2, 1), NONE], [1]),
                             ([([at], at + 1, 1, []) for at in range(8)], [0, 1, 2, 3, 4, 5, 6]),
                             ([([], 0, 8, [at]) for at in range(8)], [0, 1, 2, 3, 4, 5, 6]),
                             ([(list(range(at)), at, 1, []) for at in range(8)], [0, 1, 2, 3, 4, 5, 6]),
                             ([([], 0, 3, [bit for bit in range(3) if at >> bit & 1]) for at in range(8)], [0, 1, 2]),
                             ([([], 2, 4, [bit for bit in range(4) if at >> bit & 1]) for at in range(8)],
                              [2, 3, 4])):
            self.answers(fewest_looks, (sets,), wanted)

    def test_a_later_day_in_a_first_list(self):
        # The first day that parts two of them is in no shortest list.
        sets = [([0], 4, 1, []), ([1], 4, 1, []), ([1, 2], 4, 1, []), ([2], 4, 1, [])]
        self.answers(fewest_looks, (sets,), [1, 2])

    def test_as_many_as_may_be(self):
        chance = random.Random(822)
        for many in range(1, 5):
            chosen = [part for size in range(1, many + 1) for part in combinations(range(8), size)]
            chance.shuffle(chosen)
            sets = [([day for day, part in enumerate(chosen) if at in part], len(chosen), 1, []) for at in range(8)]
            found = fewest_looks(sets)
            rows = [tuple(set_has(told, day) for day in found) for told in sets]
            self.assertEqual(len(set(rows)), 8)
            self.assertEqual(len(found), {1: 7, 2: 5, 3: 4, 4: 3}[many])
            if many > 2:
                self.told(found, plain_looks(sets))

    def test_of_the_greatest_size(self):
        chance = random.Random(823)
        for _ in range(4):
            sets = []
            for length in (40, 50, 25, 8, 20, 10, 5, 4):
                first = chance.randint(40, 60)
                sets.append((sorted(chance.sample(range(first), 2)), first, length,
                             sorted(chance.sample(range(length), 2))))
            self.answers(fewest_looks, (sets,), plain_looks(sets))

    def test_a_round_of_2000_places(self):
        sets = [([], 0, 2000, [1998]), ([], 0, 2000, [1997]), ([], 0, 2000, [1999]), ([], 2000, 2000, [1999])]
        self.answers(fewest_looks, (sets,), [1997, 1998, 1999])
        self.answers(fewest_looks, (sets[2:],), [1999])
        self.answers(next_look, (sets, []), 3999)
        self.answers(next_look, (sets[:3], []), 1997)

    def test_sets_that_lie_anywhere(self):
        far = [([day], day + 1, 1, []) for day in (10 ** 30, 10 ** 12, 7)]
        for sets, wanted in ((far, [7, 10 ** 12]), (far[:2], [10 ** 12]), (far[:1] + [NONE], [10 ** 30]),
                             (far + [every(10, 7), ALL], [7, 17, 10 ** 12]),
                             ([ALL, (list(range(3)) + [10 ** 30], 10 ** 30 + 1, 1, [])], [3]),
                             ([every(2, 0), every(4, 0), (list(range(5)) + [10 ** 9, 10 ** 30], 10 ** 31, 1, [])],
                              [1, 2])):
            self.answers(fewest_looks, (sets,), wanted)
        self.answers(next_look, (far, []), 7)
        self.answers(next_look, (far, [(7, False)]), 10 ** 12)
        self.answers(next_look, (far, [(7, False), (10 ** 12, False)]), None)


class NextLook(Case):
    def test_drawn(self):
        for sets, notes in drawn(831, 400, 8):
            self.answers(next_look, (sets, notes), plain_next(sets, notes))

    def test_none(self):
        for sets, notes in (([], []), ([ALL], []), ([ALL, ALL, ([0], 1, 1, [0])], []), ([ALL, NONE], [(5, True)]),
                            ([every(2, 0), every(3, 0)], [(1, True)]), ([NONE, NONE], [(10 ** 31, False)])):
            self.answers(next_look, (sets, notes), None)

    def test_alike_ones_count_once(self):
        sets = [every(2, 0)] * 5 + [every(4, 0), every(4, 1)]
        self.answers(next_look, (sets, []), 0)
        self.answers(next_look, ([every(2, 0)] * 3 + [NONE, ([3], 4, 1, []), ([3, 5], 6, 1, [])], []), 3)

    def test_looking_again_and_again(self):
        for sets, _ in drawn(832, 80, 8):
            for told in sets:
                notes = []
                day = next_look(sets, notes)
                while day is not None:
                    self.assertNotIn(day, [noted for noted, _ in notes])
                    notes.append((day, has(told, day)))
                    day = next_look(sets, notes)
                alike = [at for at, other in enumerate(sets) if first_apart(told, other) is None]
                self.told(fitting(sets, notes), alike)


class Turns(Case):
    def test_drawn(self):
        chance = random.Random(841)
        for _ in range(300):
            notes = draw_notes(chance, [every(chance.randint(1, 6), chance.randint(0, 3))], 5)
            least = chance.randint(1, 5)
            greatest = least + chance.randint(-2, 6)
            wanted = [(length, first) for length in range(least, greatest + 1) for first in range(length)
                      if fits(([], first, length, [0]), notes)]
            self.answers(turns, (least, greatest, notes), wanted)

    def test_by_hand(self):
        self.answers(turns, (1, 2, []), [(1, 0), (2, 0), (2, 1)])
        self.answers(turns, (3, 2, []), [])
        self.answers(turns, (1, -4, []), [])
        self.answers(turns, (1, 60, [(0, True), (59, True)]), [(1, 0), (59, 0)])
        self.answers(turns, (1, 60, [(day, False) for day in range(20)])[:2] + ([(0, False)] * 3,),
                     [(length, first) for length in range(2, 61) for first in range(1, length)])
        self.answers(turns, (5, 7, [(10 ** 31, True)]), [(length, 10 ** 31 % length) for length in (5, 6, 7)])
        self.answers(turns, (60, 60, [(10 ** 31, True), (0, False)]), [(60, 40)])

    def test_all_sixty(self):
        self.assertEqual(len(self.ask(turns, 1, 60, [])), 60 * 61 // 2)


class Explained(Case):
    def test_drawn(self):
        for sets, notes in drawn(851, 500, 8):
            self.answers(explained, (sets, notes), plain_explained(sets, notes))

    def test_by_hand(self):
        sets = [([at], at + 1, 1, []) for at in range(8)]
        for notes, wanted in (([], []), ([(3, False)], []), ([(3, True)], [3]), ([(7, True), (2, True)], [2, 7]),
                              ([(7, True), (2, True), (4, True)], [2, 4, 7]),
                              ([(day, True) for day in range(4)], None), ([(8, True)], None),
                              ([(0, True), (10 ** 31, False)], [0]), ([(10 ** 31, True)], None)):
            self.answers(explained, (sets, notes), wanted)
        self.answers(explained, ([], []), [])
        self.answers(explained, ([], [(1, True)]), None)
        self.answers(explained, ([ALL, NONE], [(1, True), (2, False)]), None)
        # By length first: the two behind come ahead of the three in front.
        sets = [([0], 1, 1, []), ([1], 2, 1, []), ([2], 3, 1, []), ([0, 1], 2, 1, []), ([1, 2], 3, 1, [])]
        self.answers(explained, (sets, [(0, True), (1, True), (2, True)]), [0, 4])

    def test_far(self):
        sets = [every(7, 0), every(7, 10 ** 31 % 7), every(5, 0), every(5, 3)]
        self.answers(explained, (sets, [(10 ** 31, True), (10 ** 31 + 3, True), (1, False)]), [1, 3])


class Errors(Case):
    def calls(self, sets, notes):
        return [(fitting, (sets, notes)), (surely, (sets, notes)), (maybe, (sets, notes)),
                (next_look, (sets, notes)), (explained, (sets, notes))]

    def test_sets(self):
        for bad in BAD_SETS:
            for sets in ([bad], [ALL, bad], [bad, BAD_SETS[0]], [ALL, NONE, bad, BAD_SETS[1]]):
                self.refuses(fewest_looks, (sets,), InvalidSet, bad)
                for notes in ([], [(-1, True)], [(0, True), (0, False)], [(4, True)]):
                    for function, passed in self.calls(sets, notes):
                        self.refuses(function, passed, InvalidSet, bad)

    def test_notes(self):
        for notes, wanted in (([(-1, True)], (-1, True)), ([(-10 ** 31, False)], (-10 ** 31, False)),
                              ([(4, True), (4, False)], (4, False)), ([(4, False), (4, True)], (4, True)),
                              ([(4, True), (4, True), (-2, False), (4, False)], (-2, False)),
                              ([(10 ** 31, True), (3, True), (10 ** 31, False), (-1, True)], (10 ** 31, False)),
                              ([(1, True), (2, False), (1, True), (2, False), (2, True), (1, False)], (2, True))):
            for sets in ([], [ALL], [NONE, every(2, 1)]):
                for function, passed in self.calls(sets, notes):
                    self.refuses(function, passed, InvalidNote, wanted)
            for least in (1, 0, -5):
                self.refuses(turns, (least, 9, notes), InvalidNote, wanted)

    def test_least(self):
        for least in (0, -1, -10 ** 31):
            for greatest in (-1, 0, 1, 60):
                self.refuses(turns, (least, greatest, []), InvalidNumber, least)
                self.refuses(turns, (least, greatest, [(4, True), (4, True)]), InvalidNumber, least)

    def test_none_fits(self):
        for sets, notes in (([], []), ([], [(1, True)]), ([NONE], [(1, True)]),
                            ([([1], 4, 2, [1]), ALL], [(0, True), (3, False)])):
            self.refuses(surely, (sets, notes), NoDays, sets)
            self.refuses(maybe, (sets, notes), NoDays, sets)

    def test_what_is_right(self):
        sets = [([], 0, 1, []), ([0], 1, 1, [0]), ([0], 600, 600, [0, 599]), ALL]
        for notes in ([], [(0, True)], [(0, False)], [(0, True), (0, True)], [(10 ** 31, True)], [(5, False), (4, True)]):
            for function, passed in self.calls(sets, notes):
                try:
                    self.ask(function, *passed)
                except NoDays:
                    self.assertIn(function, (surely, maybe))
                    self.assertEqual(fitting(sets, notes), [])


class Seams(Case):
    def test_notes_on_all_fewest_looks(self):
        for sets, _ in drawn(861, 150, 8):
            days = fewest_looks(sets)
            for told in sets:
                alike = [at for at, other in enumerate(sets) if least_set(other) == least_set(told)]
                self.told(fitting(sets, [(day, has(told, day)) for day in days]), alike)

    def test_surely_and_maybe(self):
        for sets, notes in drawn(862, 200, 8):
            if fitting(sets, notes):
                sure, perhaps = surely(sets, notes), maybe(sets, notes)
                self.told(meeting(sure, perhaps), None)
                self.assertEqual(perhaps == NONE, next_look(sets, notes) is None)


if __name__ == "__main__":
    unittest.main()
