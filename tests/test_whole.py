"""What parts tell of one another [11], sentence by sentence, of sums, queues, rosters, diaries and desks; and that what
is returned may be passed on."""

import random
import unittest

from ladderdays.calendars import Calendar
from ladderdays.days import counts, every, first_apart, has, least_set, meeting, moved, others
from ladderdays.desks import Desk
from ladderdays.diaries import fewest_looks, fitting, maybe, next_look, surely
from ladderdays.feasts import Almanac, days_of
from ladderdays.ladders import alike, apart, earlier, first_less, joined, later, least_ladder, plus, value
from ladderdays.queues import (days_done, days_of_coming, done, first_to_wait, first_unlike_order, greatest_undone,
                               greatest_wait, idle_days, in_a_row, least_office, most_undone, office_for, undone, waits)
from ladderdays.readings import read_ladder, read_row
from ladderdays.rosters import (ahead, breaches, days_with, exchanged, exchanges, row_of, strength, thin_days, turning,
                                workers)
from ladderdays.sums import (added_up, amounts, can_keep, firmest, first_over, first_under, is_firm, is_tight, least,
                             most, row_within, tightest, where_least, where_most)
from ladderdays.terms import due, ladder_of
from ladderdays.texts import show_ladder, show_row
from tests.plain import Case, draw_set, set_again
from tests.tally import draw_bound, draw_row, row_least

FREE = ([], [0], 30)
NEVER = ([], [0], 0)


def rows(seed, times):
    chance = random.Random(seed)
    return [draw_row(chance) for _ in range(times)]


def bounds(seed, times, most_number=12):
    chance = random.Random(seed)
    return [draw_bound(chance, 6, most_number) for _ in range(times)]


def sets(seed, times):
    chance = random.Random(seed)
    return [set_again(draw_set(chance), chance.randint(0, 2), chance.randint(1, 2)) for _ in range(times)]


def endless(*told):
    return all(any(row[1]) for row in told)


class OfSums(Case):
    def test_the_most_is_the_least_bound_that_is_kept(self):
        kept = 0
        for row, bound in zip(rows(1401, 300), bounds(1402, 300)):
            self.told(first_over(row, most(row)), None)
            self.told(first_under(row, least(row)), None)
            # A row keeps a bound just if its most is nowhere above it, or its least nowhere below it.
            self.told(first_over(row, bound) is None, first_less(bound, most(row)) is None)
            self.told(first_under(row, bound) is None, first_less(least(row), bound) is None)
            kept += first_over(row, bound) is None or first_under(row, bound) is None
        self.assertGreater(kept, 100)

    def test_most_is_its_own_tightest(self):
        for row in rows(1403, 200):
            self.told(tightest(most(row)), most(row))
            self.told(firmest(least(row)), least(row))
            for length in (0, 1, 7, 10 ** 31):
                self.told([is_tight(most(row), length), is_firm(least(row), length)], [True, True])

    def test_the_row_of_the_tightest(self):
        for bound in bounds(1404, 200):
            high, low = amounts(tightest(bound)), amounts(firmest(bound))
            self.told([first_over(high, bound), first_under(low, bound)], [None, None])
            self.told([most(high), least(low)], [tightest(bound), firmest(bound)])
            self.told([added_up(high), added_up(low)], [tightest(bound), firmest(bound)])

    def test_where_most_and_most(self):
        for row in rows(1405, 150):
            for length in (1, 4, 10 ** 31):
                sums = added_up(row)
                for bound, day in ((most(row), where_most(row, length)), (least(row), where_least(row, length))):
                    self.told(value(sums, day + length) - value(sums, day), value(bound, length))

    def test_first_over_and_sums(self):
        for row, bound in zip(rows(1406, 200), bounds(1407, 200)):
            found = first_over(row, bound)
            if found:
                length, day = found
                sums = added_up(row)
                self.assertGreater(value(sums, day + length) - value(sums, day), value(bound, length))
                self.assertLessEqual(value(most(row), length - 1), value(bound, length - 1))

    def test_two_bounds_that_can_be_kept(self):
        for above, below in zip(bounds(1408, 300), bounds(1409, 300, 6)):
            high, low = tightest(above), firmest(below)
            self.told(can_keep(above, below), first_less(high, low))
            row = row_within(above, below)
            self.told(row is None, first_less(high, low) is not None)
            if row:
                self.told([first_over(row, above), first_under(row, below)], [None, None])
                self.told([first_less(high, most(row)), first_less(least(row), low)], [None, None])

    def test_bounds_together(self):
        for one, other in zip(bounds(1410, 80, 6), bounds(1411, 80, 6)):
            # A row keeps two bounds if it keeps the lesser, or the greater, of them.
            row = amounts(tightest(earlier(one, other)))
            self.told([first_over(row, one), first_over(row, other)], [None, None])
            row = amounts(firmest(later(one, other)))
            self.told([first_under(row, one), first_under(row, other)], [None, None])


class OfQueues(Case):
    def pairs(self, seed, times):
        told = rows(seed, 2 * times)
        return list(zip(told[::2], told[1::2]))

    def test_what_is_done_ahead_of_a_day(self):
        for arrivals, office in self.pairs(1421, 100):
            gone, come, can = added_up(done(arrivals, office)), added_up(arrivals), added_up(office)
            for day in range(15):
                ways = [value(come, before) + value(can, day) - value(can, before) for before in range(day + 1)]
                self.told(value(gone, day), min(ways))
                self.told(undone(arrivals, office, day), value(come, day + 1) - value(gone, day + 1))

    def test_the_greatest_wait(self):
        for arrivals, office in self.pairs(1422, 250):
            if endless(arrivals, office):
                found = apart(days_done(arrivals, office), days_of_coming(arrivals))
                self.told(waits(arrivals, office), found)
                least_wait, greatest = found
                self.told(first_to_wait(arrivals, office, least_wait), 0)
                if greatest is not None:
                    self.told(first_to_wait(arrivals, office, greatest + 1), None)

    def test_the_greatest_number_undone(self):
        for arrivals, office in self.pairs(1423, 250):
            found = apart(added_up(arrivals), added_up(done(arrivals, office)))
            wanted = most_undone(arrivals, office)
            self.told(found[1], wanted and wanted[0])
        for above, below in zip(bounds(1424, 200), bounds(1425, 200)):
            high, low = tightest(above), firmest(below)
            self.told(greatest_undone(above, below), apart(high, low)[1])
            found = most_undone(amounts(high), amounts(low))
            self.told(greatest_undone(above, below), found and found[0])

    def test_bounds_of_rows(self):
        for arrivals, office in self.pairs(1426, 150):
            found, greatest = most_undone(arrivals, office), greatest_undone(most(arrivals), least(office))
            if greatest is not None:
                self.assertLessEqual(found[0], greatest)
            longest = greatest_wait(most(arrivals), least(office))
            if longest is not None and endless(arrivals, office):
                self.assertLessEqual(waits(arrivals, office)[1], longest)

    def test_offices(self):
        for arrivals in rows(1427, 100):
            for number in (0, 2, 7):
                enough = ([], [least_office(arrivals, number)])
                self.assertLessEqual(most_undone(arrivals, enough)[0], number)
                quick = ([], [office_for(arrivals, number)])
                if endless(arrivals, quick):
                    self.assertLessEqual(waits(arrivals, quick)[1], number)
            self.told(least_office(arrivals, 0), value(most(arrivals), 1))

    def test_idle_days(self):
        for arrivals, office in self.pairs(1428, 150):
            idle, row = idle_days(arrivals, office), done(arrivals, office)
            spare = counts(idle)
            for day in range(20):
                does = value(added_up(row), day + 1) - value(added_up(row), day)
                can = value(added_up(office), day + 1) - value(added_up(office), day)
                self.told(value(spare, day + 1) - value(spare, day), int(does < can))
                if does < can:
                    self.told(undone(arrivals, office, day), 0)

    def test_in_a_row(self):
        for arrivals, office in self.pairs(1429, 100):
            other = ([0], [1, 2])
            first = in_a_row(arrivals, [office, other])
            self.told(first[0], done(arrivals, office))
            self.told(first[1], done(done(arrivals, office), other))
            last = in_a_row(arrivals, [other, office])
            self.told(first_unlike_order(arrivals, office, other) is None, first[1] == last[1])
            # What comes through the second one had come through the first one.
            self.told(first_less(added_up(first[0]), added_up(first[1])), None)


class OfRosters(Case):
    def test_a_sets_row_added_up_is_its_counts(self):
        for told in sets(1431, 200):
            self.told(added_up(row_of(told)), counts(told))
            self.told(days_with(row_of(told), 1), least_set(told))
            self.told(row_of(others(told)), row_least(([1 - bit for bit in row_of(told)[0]],
                                                       [1 - bit for bit in row_of(told)[1]])))

    def test_an_exchange_never_changes_the_strength(self):
        chance = random.Random(1432)
        made = 0
        for _ in range(60):
            roster = [(name, told) for name, told in zip("abc", sets(chance.randint(0, 10 ** 9), 3))]
            for day, later_day in exchanges(roster, "a", "c", 7, FREE)[:6]:
                behind = exchanged(roster, "a", day, "c", later_day)
                self.told(strength(behind), strength(roster))
                self.told(thin_days(behind, 2), thin_days(roster, 2))
                self.told([workers(behind, one) == workers(roster, one) for one in (day, later_day)], [False, False])
                self.told(behind[1], ("b", least_set(roster[1][1])))
                made += 1
        self.assertGreater(made, 40)

    def test_ahead_and_counts(self):
        for one, other in zip(sets(1433, 120), sets(1434, 120)):
            roster = [("a", one), ("b", other)]
            ends = [joined(([], [1], 1), counts(told)) for told in (one, other)]
            self.told(ahead(roster, "a", "b"), apart(*ends))
            low, high = ahead(roster, "b", "a")
            self.told(ahead(roster, "a", "b"), (None if high is None else -high, None if low is None else -low))
            self.told(added_up(strength(roster)), plus(counts(one), counts(other)))

    def test_turning_and_strength(self):
        # Four who take turns are there one at a time.
        roster = turning(["a", "b", "c", "d"], every(4, 0), 1)
        self.told(strength(roster), ([], [1]))
        self.told([workers(roster, 10 ** 31 + day) for day in range(4)], [["a"], ["b"], ["c"], ["d"]])
        self.told(breaches(roster, ([0], [1, 1, 1, 1], 1), NEVER), [])
        self.told(moved(roster[1][1], -1), every(4, 0))


class OfDiaries(Case):
    def test_notes(self):
        chance = random.Random(1441)
        for _ in range(80):
            told = sets(chance.randint(0, 10 ** 9), chance.randint(1, 6))
            for one in told:
                alike_ones = [at for at, other in enumerate(told) if first_apart(one, other) is None]
                self.told(fitting(told, [(day, has(one, day)) for day in fewest_looks(told)]), alike_ones)
                notes = []
                while (day := next_look(told, notes)) is not None:
                    notes.append((day, has(one, day)))
                self.told(fitting(told, notes), alike_ones)
                notes = notes[:chance.randint(0, 2)]
                sure, perhaps = surely(told, notes), maybe(told, notes)
                self.told(meeting(sure, perhaps), None)
                self.told(perhaps == ([], 0, 1, []), next_look(told, notes) is None)


class OfDesks(Case):
    def test_a_desk_tells_what_the_parts_tell(self):
        almanac = Almanac(Calendar([[2, 3], [2, 4]]), [("market", ("each", 3, 0))])
        desk = Desk(almanac)
        term, feast = [("days", 1), ("to", ("name", "market"))], ("not", ("name", "market"))
        desk.term("pay", term)
        desk.hire("ann", ("name", "market"))
        desk.hire("bob", feast)
        roster = [("ann", days_of(almanac, ("name", "market"))), ("bob", days_of(almanac, feast))]
        self.told(desk.roster, roster)
        self.told(desk.ladder("pay"), ladder_of(almanac, term))
        self.told([desk.due("pay", day) for day in range(9)], [due(almanac, term, day) for day in range(9)])
        self.told(desk.order("ladder pay"), show_ladder(ladder_of(almanac, term)))
        desk.exchange("ann", 0, "bob", 1)
        self.told(desk.roster, exchanged(roster, "ann", 0, "bob", 1))
        self.told(strength(desk.roster), strength(roster))
        for bound in bounds(1451, 40, 6):
            broken = [name for name, _, _ in breaches(desk.roster, bound, NEVER)]
            self.told(desk.rested(bound), [name for name, _ in roster if name not in broken])

    def test_lines(self):
        desk = Desk(Almanac(Calendar([[1]]), []))
        for arrivals, office in zip(rows(1452, 60), rows(1453, 60)):
            desk.order(f"row in: {show_row(arrivals)}")
            desk.order(f"row out: {show_row(office)}")
            found = most_undone(arrivals, office)
            self.told(desk.line("in", "out"), (done(arrivals, office), found and found[0]))
            told, _, number = desk.order("line in out").partition(" : ")
            self.told(read_row(told), done(arrivals, office))
            self.told(number, "none" if found is None else str(found[0]))


class PassedOn(Case):
    def test_of_2000_places(self):
        chance = random.Random(1461)
        row = [chance.randint(0, 9) for _ in range(1000)], [chance.randint(0, 9) for _ in range(1000)]
        sums = added_up(row)
        self.told([len(sums[0]), len(sums[1])], [len(row[0]), len(row[1])])
        self.told(amounts(sums), row_least(row))
        high, low = most(row), least(row)
        self.told([first_over(row, high), first_under(row, low)], [None, None])
        self.told([tightest(high), firmest(low)], [high, low])
        self.told(read_row(show_row(row)), row)
        self.told(read_ladder(show_ladder(high)), high)
        self.told(alike(least_ladder(high), high), True)

    def test_queues_of_what_was_returned(self):
        chance = random.Random(1462)
        arrivals = ([chance.randint(0, 9) for _ in range(60)], [chance.randint(0, 9) for _ in range(24)])
        office = ([0] * 20, [chance.randint(3, 9) for _ in range(25)])
        row = done(arrivals, office)
        self.told(done(row, office), row)
        self.told(most_undone(row, office), (0, 0))
        self.told(first_over(row, most(office)), None)
        self.told(waits(row, office)[0], 0)


if __name__ == "__main__":
    unittest.main()
