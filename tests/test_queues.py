"""The section `ladderdays/queues.py`, against a plain going day by day and thing by thing."""

import random
import unittest

from ladderdays.errors import InvalidLadder, InvalidNumber, InvalidRow, NoDays
from ladderdays.queues import (days_done, days_of_coming, done, first_to_wait, first_unlike_order, greatest_undone,
                               greatest_wait, idle_days, in_a_row, least_office, most_undone, office_for, undone, waits)
from ladderdays.sums import amounts, first_over, first_under, firmest, least, most, tightest
from tests.plain import Case, ladder_from, number_of, numbers_of, set_from
from tests.tally import (BAD_BOUNDS, BAD_ROWS, calm_from, closed, common_of, draw_bound, draw_row, ends_of, gain_of,
                         outs_of, row_from, row_upto, things_of)

NOTHING = ([], [0])
ONE = ([], [1])
FREE = ([], [0], 30)
NEVER = ([], [0], 0)


def pairs(seed, times, **limits):
    """Rows of arrivals and of offices: such as keep up, such as just do, such as fall behind, such as have an end."""
    chance = random.Random(seed)
    for _ in range(times):
        arrivals, office = draw_row(chance, **limits), draw_row(chance, **limits)
        if chance.random() < 0.25:
            office = office[0], chance.sample(arrivals[1], len(arrivals[1]))
        yield arrivals, office


def endless(*rows):
    return all(any(row[1]) for row in rows)


def plain_done(arrivals, office):
    start, length = calm_from(arrivals, office)
    return row_from(outs_of(arrivals, office, start + 2 * length), start, length)


def plain_things(arrivals, office):
    """The days of coming and of being done of all things that come up to where all comes over and over, and of those
    of some rounds behind."""
    start, length = calm_from(arrivals, office)
    days = start + 3 * length
    many = sum(row_upto(arrivals, days))
    while len(things_of(arrivals, office, days)[0]) < many:
        days *= 2
    return things_of(arrivals, office, days)[0][:many]


def plain_waits(arrivals, office):
    lengths = [late - soon for soon, late in plain_things(arrivals, office)]
    return min(lengths), max(lengths) if gain_of(arrivals, office) <= 0 else None


def plain_first_to_wait(arrivals, office, days):
    things, horizon = plain_things(arrivals, office), 40
    while True:
        late = [at for at, (soon, done_on) in enumerate(things) if done_on - soon >= days]
        if late:
            return late[0]
        if gain_of(arrivals, office) <= 0:
            return None
        horizon *= 2
        things = things_of(arrivals, office, horizon)[0]


def plain_orders(arrivals, one, other, many):
    """The first day by whose end not as many have come through in both orders, of so many days."""
    ways = []
    for first, second in ((one, other), (other, one)):
        outs = outs_of((outs_of(arrivals, first, many), [0]), second, many)
        ways.append(outs)
    totals = [0, 0]
    for day in range(many):
        totals = [total + way[day] for total, way in zip(totals, ways)]
        if totals[0] != totals[1]:
            return day
    return None


class Done(Case):
    def test_drawn(self):
        for arrivals, office in pairs(1001, 400):
            self.answers(done, (arrivals, office), plain_done(arrivals, office))

    def test_by_hand(self):
        for arrivals, office, wanted in ((NOTHING, ONE, NOTHING), (ONE, NOTHING, NOTHING), (([5], [0]), ONE, ([1] * 5, [0])),
                                         (([], [2]), ONE, ONE), (([], [1]), ([], [2]), ONE),
                                         (([3], [1]), ([], [1]), ONE), (([0, 0], [3]), ([], [1, 0]), ([0], [0, 1])),
                                         (([], [3, 0, 0]), ([2], [1]), ([2, 1, 0], [1])),
                                         (([4], [1]), ([], [0, 4]), ([0, 4, 0, 3], [0, 2])),
                                         (([1000] * 2, [0]), ([], [0, 1000]), ([0, 1000, 0, 1000], [0]))):
            self.answers(done, (arrivals, office), wanted)

    def test_that_takes_long(self):
        self.answers(done, (([900], [0, 1]), ([], [1])), ([1] * 1798, [1, 0]))
        arrivals, office = ([1000] * 2, [3] * 20), ([], [0] * 19 + [159])
        self.told(done(arrivals, office), plain_done(arrivals, office))

    def test_of_the_greatest_size(self):
        chance = random.Random(1002)
        for sizes in ((24, 25), (60, 10), (1, 60)):
            arrivals, office = [([chance.randint(0, 1000) for _ in range(60)],
                                 [chance.randint(0, 1000) for _ in range(size)]) for size in sizes]
            for rows in ((arrivals, office), (office, arrivals)):
                if abs(gain_of(*rows)) > 500:
                    self.told(done(*rows), plain_done(*rows))
                    start, length = calm_from(*rows)
                    ends = ends_of(*rows, start + 2 * length)
                    self.told(undone(*rows, start + 2 * length - 1), ends[-1])
                    self.told(most_undone(*rows), None if gain_of(*rows) > 0 else (max(ends), ends.index(max(ends))))


class Undone(Case):
    def test_drawn(self):
        for arrivals, office in pairs(1011, 250):
            start, length = calm_from(arrivals, office)
            ends = ends_of(arrivals, office, start + 2 * length)
            for day, number in enumerate(ends):
                self.told(undone(arrivals, office, day), number, (arrivals, office, day))
            self.answers(undone, (arrivals, office, 3), ends[3] if len(ends) > 3 else ends_of(arrivals, office, 4)[3])

    def test_far(self):
        for arrivals, office in pairs(1012, 150):
            start, length = calm_from(arrivals, office)
            ends = ends_of(arrivals, office, start + length)
            for day in (10 ** 31, 10 ** 31 - 1, 10 ** 30 + 17):
                rounds, place = divmod(day - start, length)
                number = ends[start + place]
                if gain_of(arrivals, office) > 0:
                    number += rounds * gain_of(arrivals, office)
                self.answers(undone, (arrivals, office, day), number)

    def test_by_hand(self):
        self.answers(undone, (([1000] * 60, [1] * 5), ([], [1] * 5 + [2]), 10 ** 31), 0)
        self.answers(undone, (([1000] * 60, [1] * 5), ([], [1] * 4 + [0, 2]), 10 ** 31), 60000 - 60 + 1)
        self.answers(undone, (([60000], [1]), ([], [1] * 59 + [2]), 60 * 59998 - 1), 1)
        self.answers(undone, (([60000], [1]), ([], [1] * 59 + [2]), 60 * 59999 - 1), 0)
        self.answers(undone, (ONE, NOTHING, 10 ** 31), 10 ** 31 + 1)
        self.answers(undone, (([7], [0]), NOTHING, 10 ** 31), 7)

    def test_most(self):
        for arrivals, office in pairs(1013, 300):
            start, length = calm_from(arrivals, office)
            ends = ends_of(arrivals, office, start + 2 * length)
            wanted = None if gain_of(arrivals, office) > 0 else (max(ends), ends.index(max(ends)))
            self.answers(most_undone, (arrivals, office), wanted)

    def test_most_by_hand(self):
        for arrivals, office, wanted in ((NOTHING, NOTHING, (0, 0)), (([], [0, 0, 4]), ([], [4]), (0, 0)),
                                         (([0, 2], [1]), ([], [1]), (1, 1)), (([], [1, 2]), ([], [1, 2]), (0, 0)),
                                         (([], [2, 1]), ([], [1, 2]), (1, 0)), (([], [1]), NOTHING, None),
                                         (([9] * 3, [0]), NOTHING, (27, 2)), (([9] * 3, [0]), ONE, (24, 2))):
            self.answers(most_undone, (arrivals, office), wanted)


class Days(Case):
    def test_of_coming(self):
        chance = random.Random(1021)
        for _ in range(200):
            arrivals = draw_row(chance)
            if not endless(arrivals):
                self.refuses(days_of_coming, (arrivals,), NoDays, arrivals)
                continue
            start, length = len(arrivals[0]), len(arrivals[1])
            days = [day for day, come in enumerate(row_upto(arrivals, start + 2 * length)) for _ in range(come)]
            self.answers(days_of_coming, (arrivals,), ladder_from(days, sum(arrivals[0]), sum(arrivals[1])))

    def test_done(self):
        for arrivals, office in pairs(1022, 300):
            if not endless(arrivals, office):
                wanted = office if endless(arrivals) else arrivals
                self.refuses(days_done, (arrivals, office), NoDays, wanted)
                continue
            start, length = calm_from(arrivals, office)
            outs = outs_of(arrivals, office, start + 2 * length)
            days = [day for day, many in enumerate(outs) for _ in range(many)]
            self.assertEqual(days, [late for _, late in things_of(arrivals, office, start + 2 * length)[0]])
            self.answers(days_done, (arrivals, office),
                         ladder_from(days, sum(outs[:start]), sum(outs[start:start + length])))

    def test_by_hand(self):
        self.answers(days_of_coming, (([0, 3], [0, 2]),), ([1], [1, 1], 2))
        self.answers(days_of_coming, (([], [1000]),), ([], [0] * 1000, 1))
        self.answers(days_done, (([0, 3], [0, 2]), ONE), ([], [1], 1))
        self.answers(days_done, (([], [2]), ([5], [0, 1])), ([0], [0], 2))

    def test_far(self):
        coming = days_of_coming(([4], [1, 0, 2]))
        self.told(number_of(coming, 10 ** 30), (10 ** 30 - 4) // 3 * 3 + 1)


class Waits(Case):
    def test_drawn(self):
        for arrivals, office in pairs(1031, 400):
            if endless(arrivals, office):
                self.answers(waits, (arrivals, office), plain_waits(arrivals, office))
            else:
                self.refuses(waits, (arrivals, office), NoDays, office if endless(arrivals) else arrivals)

    def test_by_hand(self):
        for arrivals, office, wanted in ((ONE, ONE, (0, 0)), (ONE, ([0], [1]), (1, 1)), (([], [2, 0, 0, 2]), ONE, (0, 2)), (([5], [1]), ONE, (0, 4)),
                                         (([], [2]), ONE, (0, None)), (([], [2]), ([0] * 5, [1]), (5, None)),
                                         (([1000], [0, 1]), ONE, (0, 999)),
                                         (([0, 0, 0, 1], [0, 1]), ([0] * 60, [0, 1]), (58, 58)),
                                         (([9] + [0] * 50, [0, 0, 1]), ([], [0, 0, 0, 3]), (0, 11))):
            self.answers(waits, (arrivals, office), wanted)

    def test_the_least_comes_late(self):
        # It takes ten thousands of days until a thing waits less.
        self.answers(waits, (([1000] * 30, [1] * 10), ([0] * 30, [1] * 9 + [2])), (0, 27273))
        arrivals, office = ([1000] * 10, [1] * 4), ([0] * 10, [1, 1, 1, 2])
        found = [late - soon for soon, late in plain_things(([100] * 4, [1] * 4), ([0] * 4, [1, 1, 1, 2]))]
        self.answers(waits, (([100] * 4, [1] * 4), ([0] * 4, [1, 1, 1, 2])), (min(found), max(found)))
        self.told(waits(arrivals, office)[0], 0)

    def test_first_to_wait(self):
        for arrivals, office in pairs(1032, 300):
            for days in (0, 1, 2, 3, 5, 9, 20):
                if endless(arrivals, office):
                    wanted = plain_first_to_wait(arrivals, office, days)
                    self.told(first_to_wait(arrivals, office, days), wanted, (arrivals, office, days))
            if endless(arrivals, office):
                self.answers(first_to_wait, (arrivals, office, 2), plain_first_to_wait(arrivals, office, 2))
            else:
                self.refuses(first_to_wait, (arrivals, office, 2), NoDays, office if endless(arrivals) else arrivals)

    def test_first_to_wait_far(self):
        self.answers(first_to_wait, (([], [2]), ONE, 10 ** 31), 2 * 10 ** 31 - 1)
        self.answers(first_to_wait, (([], [2]), ([], [1, 1]), 10 ** 31 - 1), 2 * 10 ** 31 - 3)
        self.answers(first_to_wait, (([1000], [1]), ONE, 10 ** 31), None)
        self.answers(first_to_wait, (([1000], [1]), ONE, 999), 999)
        self.answers(first_to_wait, (([1000], [1]), ONE, 1000), None)
        for arrivals, office in pairs(1033, 80):
            if endless(arrivals, office) and gain_of(arrivals, office) > 0:
                for days in (10 ** 30, 10 ** 31 + 3):
                    thing = self.ask(first_to_wait, arrivals, office, days)
                    coming, gone = days_of_coming(arrivals), days_done(arrivals, office)
                    self.assertGreaterEqual(number_of(gone, thing) - number_of(coming, thing), days)
                    # Things wait longer and longer, but for the order of the days in a round.
                    _, length = common_of([arrivals, office])
                    many = sum(arrivals[1]) * (length // len(arrivals[1])) * 3
                    for before in range(max(0, thing - many), thing):
                        self.assertLess(number_of(gone, before) - number_of(coming, before), days)

    def test_first_to_wait_agrees_with_waits(self):
        for arrivals, office in pairs(1034, 150):
            if endless(arrivals, office) and gain_of(arrivals, office) <= 0:
                greatest = waits(arrivals, office)[1]
                self.assertIsNotNone(first_to_wait(arrivals, office, greatest))
                self.told(first_to_wait(arrivals, office, greatest + 1), None)


class InARow(Case):
    def test_drawn(self):
        chance = random.Random(1041)
        for _ in range(200):
            arrivals = draw_row(chance, 3, 3)
            offices = [draw_row(chance, 3, 3) for _ in range(chance.randint(0, 3))]
            wanted, row = [], arrivals
            for office in offices:
                row = plain_done(row, office)
                wanted.append(row)
            self.answers(in_a_row, (arrivals, offices), wanted)

    def test_by_hand(self):
        self.answers(in_a_row, (ONE, []), [])
        self.answers(in_a_row, (([6], [0]), [([], [2]), ONE, NOTHING]), [([2] * 3, [0]), ([1] * 6, [0]), NOTHING])
        self.answers(in_a_row, (([4], [1]), [ONE, ONE]), [ONE, ONE])

    def test_the_order(self):
        chance = random.Random(1042)
        unlike = 0
        for at in range(500):
            arrivals, one, other = [draw_row(chance, 9 if at % 6 == which else 3, 3) for which in range(3)]
            start, length = common_of([arrivals, one, other])
            many = start + length * (sum(arrivals[0]) + sum(arrivals[1]) + 40)
            wanted = plain_orders(arrivals, one, other, min(many, 4000))
            self.answers(first_unlike_order, (arrivals, one, other), wanted)
            unlike += wanted is not None
            if wanted is None:
                self.told(in_a_row(arrivals, [one, other])[-1], in_a_row(arrivals, [other, one])[-1])
            else:
                self.assertNotEqual(in_a_row(arrivals, [one, other])[-1], in_a_row(arrivals, [other, one])[-1])
        self.assertTrue(60 < unlike < 400, unlike)

    def test_the_order_by_hand(self):
        for arrivals, one, other, wanted in ((ONE, ONE, ONE, None), (ONE, ONE, NOTHING, None), (([], [9]), ONE, ([], [2]), None),
                                             (([1], [0]), ([0], [1]), ([], [1, 0]), 1),
                                             (([], [2]), ([], [2, 0]), ([], [0, 2]), 1),
                                             (([], [1, 0]), ([], [1, 0]), ([], [0, 1]), 1),
                                             (([0] * 7 + [5], [0]), ([], [1, 0]), ([], [0, 1]), 8),
                                             (([], [1]), ([1] * 7, [0, 2]), ([], [1, 0]), None),
                                             (([0] * 6, [1]), ([9] * 8, [0, 2]), ([9] * 8, [2, 0]), 9),
                                             (([0] * 6, [1]), ([], [9]), ([9] * 8, [2, 0]), None),
                                             (([0] * 4, [1, 0]), ([], [0, 2, 0]), ([0], [2, 1]), 10),
                                             (([0] * 5, [0, 1]), ([0] * 4, [1, 0]), ([2, 0, 0], [1, 0]), 7),
                                             (([0], [0, 0, 2]), ([0], [0, 0, 3]), ([16], [2, 0]), 7)):
            self.answers(first_unlike_order, (arrivals, one, other), wanted)

    def test_orders_with_much_left_for_long(self):
        chance = random.Random(1043)
        alike = 0
        for _ in range(60):
            length = chance.randint(1, 4)
            arrivals = [chance.randint(0, 400) for _ in range(3)], [chance.randint(0, 2) for _ in range(length)]
            one = [0] * chance.randint(0, 3), [chance.randint(0, 3) for _ in range(chance.randint(1, 3))]
            other = [0] * chance.randint(0, 3), [chance.randint(0, 3) for _ in range(chance.randint(1, 3))]
            if chance.random() < 0.5:
                other = one[0], [number + chance.randint(0, 1) for number in one[1]]
            wanted = plain_orders(arrivals, one, other, 15000)
            self.told(first_unlike_order(arrivals, one, other), wanted, (arrivals, one, other))
            alike += wanted is None
        self.assertTrue(10 < alike < 50, alike)

    def test_orders_with_much_left_for_millions_of_days(self):
        arrivals = [1000] * 60, [1] * 599 + [0]
        self.answers(first_unlike_order, (arrivals, ONE, ([], [2])), None)
        self.answers(first_unlike_order, (arrivals, ([], [2]), ([1000] * 60, [1])), 60)
        self.answers(first_unlike_order, (arrivals, ONE, ([7] * 60, [1])), None)
        self.answers(first_unlike_order, (arrivals, ([0] * 60, [1, 1]), ([0] * 60, [2, 0])), 61)


class Greatest(Case):
    def test_drawn(self):
        chance = random.Random(1051)
        none = 0
        for _ in range(400):
            above, below = draw_bound(chance, 6, chance.choice([4, 12])), draw_bound(chance, 6, chance.choice([4, 12]))
            high, low = tightest(above), firmest(below)
            many = 3 * (len(high[0]) + len(low[0]) + len(high[1]) * len(low[1]) + 10)
            ups, downs = closed(above, many, min), closed(below, many, max)
            gain = high[2] * len(low[1]) - low[2] * len(high[1])
            undo = max(up - down for up, down in zip(ups, downs)) if gain <= 0 else None
            self.answers(greatest_undone, (above, below), undo)
            self.answers(greatest_wait, (above, below), self.plain_wait(ups, downs, gain))
            none += undo is None
        self.assertTrue(60 < none < 300, none)

    def plain_wait(self, ups, downs, gain):
        if ups[-1] == 0:
            return 0
        if gain > 0 or downs[-1] == 0:
            return None
        half = len(ups) // 2
        lengths = []
        for length in range(half):
            # The last one of so many has come on the last of these days; it is done when as many can be done.
            while len(downs) <= 10 ** 4 and downs[-1] < ups[length]:
                downs = downs + [max(downs[part] + downs[len(downs) - part] for part in range(1, len(downs)))]
            day = next(many for many, number in enumerate(downs) if number >= ups[length])
            lengths.append(day - length)
        return max(lengths)

    def test_rows_come_up_to_it(self):
        chance = random.Random(1052)
        for _ in range(150):
            above, below = draw_bound(chance, 5, 8), draw_bound(chance, 5, 8)
            arrivals, office = amounts(tightest(above)), amounts(firmest(below))
            ends = ends_of(arrivals, office, 150)
            greatest = greatest_undone(above, below)
            if greatest is None:
                self.assertGreater(gain_of(arrivals, office), 0)
            else:
                self.told(max(ends), greatest)
            longest = greatest_wait(above, below)
            if endless(arrivals, office):
                self.told(waits(arrivals, office)[1], longest)
            elif longest is not None:
                things, line = things_of(arrivals, office, 400)
                self.assertFalse(line)
                self.told(max([late - soon for soon, late in things], default=0), longest)

    def test_no_rows_go_beyond_it(self):
        chance = random.Random(1053)
        for _ in range(200):
            arrivals, office = draw_row(chance, 3, 4), draw_row(chance, 3, 4)
            above, below = most(arrivals), least(office)
            greatest, longest = greatest_undone(above, below), greatest_wait(above, below)
            found = most_undone(arrivals, office)
            if greatest is not None:
                self.assertLessEqual(found[0], greatest)
            if longest is not None:
                things, line = things_of(arrivals, office, 300)
                self.assertTrue(all(late - soon <= longest for soon, late in things))
                self.assertTrue(all(299 - soon < longest for soon in line))

    def test_by_hand(self):
        for above, below, undo, longest in ((NEVER, NEVER, 0, 0), (NEVER, ([], [0], 2), 0, 0), (FREE, NEVER, None, None),
                                            (FREE, FREE, 0, 0), (([0], [5], 0), NEVER, 5, None),
                                            (([0], [5], 0), ([], [0], 1), 4, 4), (([0], [5], 0), ([0] * 4, [0], 1), 5, 8),
                                            (([], [0, 0, 9], 9), NEVER, 0, 0), (([], [0], 2), ([], [0], 1), None, None),
                                            (([0], [3], 1), ([0, 0], [0], 2), 4, 3)):
            self.answers(greatest_undone, (above, below), undo)
            self.answers(greatest_wait, (above, below), longest)

    def test_of_what_was_returned(self):
        chance = random.Random(1054)
        for _ in range(60):
            above, below = draw_bound(chance, 6, 12), draw_bound(chance, 6, 12)
            for function in (greatest_undone, greatest_wait):
                self.told(function(tightest(above), firmest(below)), function(above, below))


class Offices(Case):
    def test_least_office(self):
        chance = random.Random(1061)
        for _ in range(200):
            arrivals = draw_row(chance)
            for many in (0, 1, 2, 5, 11):
                number = 0
                while True:
                    start, length = calm_from(arrivals, ([], [number]))
                    ends = ends_of(arrivals, ([], [number]), start + length)
                    if gain_of(arrivals, ([], [number])) <= 0 and max(ends) <= many:
                        break
                    number += 1
                self.answers(least_office, (arrivals, many), number)

    def test_office_for(self):
        chance = random.Random(1062)
        for _ in range(200):
            arrivals = draw_row(chance)
            for days in (0, 1, 2, 5):
                self.answers(office_for, (arrivals, days), self.plain_office(arrivals, days))

    def plain_office(self, arrivals, days):
        if not any(arrivals[0] + arrivals[1]):
            return 0
        number = 1
        while True:
            office = ([], [number])
            if gain_of(arrivals, office) <= 0:
                things = plain_things(arrivals, office)
                if all(late - soon <= days for soon, late in things):
                    return number
            number += 1

    def test_by_hand(self):
        for arrivals, many, number, lasting in ((NOTHING, 0, 0, 0), (NOTHING, 10 ** 31, 0, 0), (([1000], [0]), 10 ** 31, 0, 1),
                                                (([1000], [0]), 0, 1000, 1000), (([], [1000]), 10 ** 31, 1000, 1000),
                                                (([1000], [0]), 999, 1, 1), (([0, 1000], [0]), 500, 500, 2),
                                                (([], [1, 0, 0]), 3, 1, 1), (([], [3, 0, 0]), 2, 1, 1)):
            self.answers(least_office, (arrivals, many), number)
            self.answers(office_for, (arrivals, many), lasting)


class Idle(Case):
    def test_drawn(self):
        for arrivals, office in pairs(1071, 300):
            start, length = calm_from(arrivals, office)
            many = start + 2 * length
            bits = [out < can for out, can in zip(outs_of(arrivals, office, many), row_upto(office, many))]
            self.answers(idle_days, (arrivals, office), set_from(bits, start, length))

    def test_by_hand(self):
        for arrivals, office, wanted in ((NOTHING, NOTHING, ([], 0, 1, [])), (NOTHING, ONE, ([], 0, 1, [0])),
                                         (ONE, ONE, ([], 0, 1, [])), (([5], [0]), ([2], [1, 0]), ([], 6, 2, [1])),
                                         (([5], [0, 0]), ([], [3]), ([], 1, 1, [0])),
                                         (([], [1, 0]), ([0], [1]), ([], 2, 2, [1]))):
            self.answers(idle_days, (arrivals, office), wanted)
        self.answers(idle_days, (([1800], [0]), ONE), ([], 1800, 1, [0]))


class Errors(Case):
    PAIRS = (done, most_undone, days_done, waits, idle_days)

    def test_rows(self):
        for bad in BAD_ROWS:
            for good in (NOTHING, ONE, BAD_ROWS[0]):
                for function in self.PAIRS:
                    self.refuses(function, (bad, good), InvalidRow, bad)
                    if good is not BAD_ROWS[0]:
                        self.refuses(function, (good, bad), InvalidRow, bad)
                for number in (0, -1):
                    self.refuses(undone, (bad, good, number), InvalidRow, bad)
                    self.refuses(first_to_wait, (bad, good, number), InvalidRow, bad)
                    if good is not BAD_ROWS[0]:
                        self.refuses(undone, (good, bad, number), InvalidRow, bad)
                        self.refuses(first_to_wait, (good, bad, number), InvalidRow, bad)
                self.refuses(in_a_row, (bad, [good]), InvalidRow, bad)
                self.refuses(first_unlike_order, (bad, good, BAD_ROWS[1]), InvalidRow, bad)
            self.refuses(in_a_row, (bad, []), InvalidRow, bad)
            self.refuses(in_a_row, (ONE, [ONE, bad, BAD_ROWS[0]]), InvalidRow, bad)
            self.refuses(first_unlike_order, (ONE, bad, BAD_ROWS[1]), InvalidRow, bad)
            self.refuses(first_unlike_order, (ONE, ONE, bad), InvalidRow, bad)
            self.refuses(days_of_coming, (bad,), InvalidRow, bad)
            for number in (0, -1):
                self.refuses(least_office, (bad, number), InvalidRow, bad)
                self.refuses(office_for, (bad, number), InvalidRow, bad)

    def test_bounds(self):
        for bad in BAD_BOUNDS:
            for function in (greatest_undone, greatest_wait):
                for good in (NEVER, FREE):
                    self.refuses(function, (bad, good), InvalidLadder, bad)
                    self.refuses(function, (good, bad), InvalidLadder, bad)
                self.refuses(function, (bad, BAD_BOUNDS[0]), InvalidLadder, bad)

    def test_numbers(self):
        for number in (-1, -10 ** 31):
            for rows in ((ONE, ONE), (NOTHING, NOTHING), (ONE, NOTHING)):
                self.refuses(undone, rows + (number,), InvalidNumber, number)
                self.refuses(first_to_wait, rows + (number,), InvalidNumber, number)
            for row in (ONE, NOTHING):
                self.refuses(least_office, (row, number), InvalidNumber, number)
                self.refuses(office_for, (row, number), InvalidNumber, number)

    def test_ends(self):
        finite = [NOTHING, ([5], [0, 0]), ([0, 0], [0])]
        for row in finite:
            self.refuses(days_of_coming, (row,), NoDays, row)
            for function in (days_done, waits):
                for other in [ONE] + finite:
                    self.refuses(function, (row, other), NoDays, row)
                self.refuses(function, (ONE, row), NoDays, row)
            for days in (0, 3):
                self.refuses(first_to_wait, (row, ONE, days), NoDays, row)
                self.refuses(first_to_wait, (row, finite[0], days), NoDays, row)
                self.refuses(first_to_wait, (ONE, row, days), NoDays, row)

    def test_what_is_right(self):
        for arrivals in (NOTHING, ([1000] * 3, [0]), ([0], [0, 1000])):
            for office in (NOTHING, ([1000], [0]), ([0], [0, 1])):
                for function in (done, most_undone, idle_days):
                    self.ask(function, arrivals, office)
                self.ask(undone, arrivals, office, 0)
                self.ask(in_a_row, arrivals, [office, office])
                self.ask(first_unlike_order, arrivals, office, NOTHING)
                if endless(arrivals, office):
                    self.ask(waits, arrivals, office)
                    self.ask(first_to_wait, arrivals, office, 0)
            self.ask(least_office, arrivals, 0)
            self.ask(office_for, arrivals, 0)


class Seams(Case):
    def test_what_is_done_ahead_of_a_day(self):
        for arrivals, office in pairs(1081, 120):
            start, length = common_of([arrivals, office])
            many = start + 3 * length
            come, can = row_upto(arrivals, many), row_upto(office, many)
            row = done(arrivals, office)
            for day in range(many):
                ways = [sum(come[:before]) + sum(can[before:day]) for before in range(day + 1)]
                self.assertEqual(sum(row_upto(row, day)), min(ways))

    def test_the_greatest_wait(self):
        for arrivals, office in pairs(1082, 150):
            if endless(arrivals, office):
                coming, gone = days_of_coming(arrivals), days_done(arrivals, office)
                start, length = calm_from(arrivals, office)
                many = sum(row_upto(arrivals, start + 3 * length))
                lengths = [late - soon for soon, late in zip(numbers_of(coming, many), numbers_of(gone, many))]
                shortest, longest = waits(arrivals, office)
                self.assertEqual(shortest, min(lengths))
                if longest is None:
                    self.assertGreater(gone[2] * len(coming[1]), coming[2] * len(gone[1]))
                else:
                    self.assertEqual(longest, max(lengths))

    def test_idle_days_and_undone(self):
        for arrivals, office in pairs(1083, 100):
            self.told(first_over(done(arrivals, office), most(office)), None)
            self.told(first_under(office, least(office)), None)


if __name__ == "__main__":
    unittest.main()
