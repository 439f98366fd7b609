"""The examples of the document, word for word, and those of README.md."""

import doctest
import os
import unittest

from tests.plain import Case

DAYS = """
>>> from ladderdays.days import both, but, counts, every, first_apart, gaps, has, meeting, moved, next_day, nth_days, others, set_of
>>> three, two = every(3, 0), every(2, 0)
>>> [three, has(three, 9), every(3, 7), both(three, two), but(two, three), others(three), moved(three, -1), first_apart(three, two), meeting(every(3, 1), every(2, 0)), next_day(three, 4)]
[([], 0, 3, [0]), True, ([], 5, 3, [2]), ([], 0, 6, [0]), ([], 0, 6, [2, 4]), ([], 0, 3, [1, 2]), ([], 0, 3, [2]), 2, 4, 6]
>>> [set_of([5, 2, 5]), counts(three), nth_days(three), gaps(three), nth_days(every(3, 1))]
[([2, 5], 6, 1, []), ([], [0, 1, 1], 1), ([], [0], 3), (3, 3), ([], [1], 3)]
"""

LADDERS = """
>>> from ladderdays.ladders import after, apart, earlier, first_from, first_less, joined, later, plus, power, settles, speed, still, until, value
>>> on, twice, to = ([], [2], 1), ([], [0], 2), ([], [0, 3, 3], 3)
>>> [value(to, 4), joined(on, to), first_from(to), until(to), earlier(on, twice), later(on, twice), plus(on, twice)]
[6, ([], [3, 3, 6], 3), ([0], [1, 1, 1], 3), ([], [1, 1, 1], 3), ([0, 2], [4], 1), ([2, 3], [4], 2), ([], [2], 3)]
>>> [first_less(on, twice), apart(to, on), apart(twice, on), speed(to), power(on, 3), after(on, 1, 10 ** 30), still(to), settles(on, 5), settles(twice, 0), settles(twice, 1)]
[3, (-2, 0), (-2, None), (1, 1), ([], [6], 1), 2000000000000000000000000000001, ([], 0, 3, [0]), (0, 1, 2), (0, 1, 0), None]
"""

CALENDARS = """
>>> from ladderdays.calendars import Calendar
>>> calendar = Calendar([[2, 3], [2, 4]])
>>> [calendar.date(4), calendar.date(5), calendar.day((1, 1, 3)), calendar.year_starts(), calendar.dates(1, 3), len(calendar), calendar == Calendar([[2, 3], [2, 4], [2, 3], [2, 4]])]
[(0, 1, 2), (1, 0, 0), 10, ([], 0, 11, [0, 5]), ([], 0, 11, [10]), 11, True]
>>> [calendar.months_on(1), calendar.months()]
[([], [2, 3, 5, 6, 6, 7, 8, 11, 12, 12, 12], 11), ([], [0, 0, 1, 1, 1, 2, 2, 3, 3, 3, 3], 4)]
"""

FEASTS = """
>>> from ladderdays.calendars import Calendar
>>> from ladderdays.feasts import Almanac, busiest, days_of, distances, needless, never_meeting
>>> calendar = Calendar([[2, 3], [2, 4]])
>>> almanac = Almanac(calendar, [("market", ("each", 3, 0)), ("fair", ("next", ("date", 0, 0), ("name", "market"))), ("fast", ("each", 3, 1))])
>>> [almanac["fair"], distances(almanac, ("date", 0, 0), ("name", "market")), never_meeting(almanac), needless(almanac), busiest(almanac)]
[([], 0, 33, [0, 6, 12, 18, 24, 27]), (0, 2), [('fair', 'fast'), ('market', 'fast')], [], (2, 0)]
>>> [days_of(almanac, ("last", ("ends",), ("name", "fast"))), days_of(almanac, ("nth", 2, ("name", "market"), ("each", 12, 1))), days_of(almanac, ("not", ("either", ("name", "market"), ("name", "fast"))))]
[([], 0, 33, [1, 4, 10, 13, 16, 19, 22, 25, 28, 31]), ([], 0, 12, [6]), ([], 0, 3, [2])]
"""

TERMS = """
>>> from ladderdays.calendars import Calendar
>>> from ladderdays.feasts import Almanac
>>> from ladderdays.terms import due, first_later, ladder_of, last_start, needless_steps, passing, shortest, slack, spread
>>> almanac = Almanac(Calendar([[2, 3], [2, 4]]), [("market", ("each", 3, 0))])
>>> to, one = ("to", ("name", "market")), ("days", 1)
>>> [due(almanac, [one, to], 4), ladder_of(almanac, [one, to]), ladder_of(almanac, [("work", 2, ("name", "market"))]), last_start(almanac, [one, to], 6), spread(almanac, [one, to]), needless_steps(almanac, [to, to])]
[6, ([], [3, 3, 3], 3), ([], [6, 6, 6], 3), 5, (1, 3), [0, 1]]
>>> [passing(almanac, [one], [to]), passing(almanac, [one], [("days", 3)]), slack(almanac, [one, to], [to, one]), first_later(almanac, [one, to], [to, one]), shortest(almanac, [one, to], [("work", 1, ("name", "market"))], 3)]
[False, True, (-2, 1), 0, [0, 1]]
"""

DIARIES = """
>>> from ladderdays.days import every
>>> from ladderdays.diaries import explained, fewest_looks, fitting, maybe, next_look, surely, turns
>>> sets = [every(3, 0), every(2, 0), every(4, 0)]
>>> [fitting(sets, [(0, True), (3, False)]), surely(sets, [(3, False)]), maybe(sets, [(3, False)]), fewest_looks(sets), next_look(sets, []), turns(1, 3, [(0, True), (1, False)]), explained(sets, [(3, True), (4, True), (1, False)])]
[[1, 2], ([], 0, 4, [0]), ([], 0, 4, [2]), [2, 3], 2, [(2, 0), (3, 0)], [0, 1]]
"""

TEXTS = """
>>> from ladderdays.readings import read_almanac, read_calendar, read_feast, read_ladder, read_row, read_term
>>> from ladderdays.texts import show_almanac, show_calendar, show_feast, show_ladder, show_row, show_term
>>> feast = ("either", ("each", 3, 0), ("moved", -1, ("name", "fair")))
>>> [show_feast(feast), read_feast("((each 3 from 0) + (fair @ -1))") == feast, show_term([("days", 1), ("to", ("name", "market"))]), read_term("later [days 1] [to (starts)]"), show_ladder(([0], [1, 1, 1], 3)), read_ladder("- / 2 + 1"), show_row(read_row("5 / 1 -2"))]
['((each 3 from 0) + (fair @ -1))', True, 'days 1, to market', [('later', [('days', 1)], [('to', ('starts',))])], '0 / 1 1 1 + 3', ([], [2], 1), '5 / 1 -2']
>>> show_almanac(read_almanac("2 3; 2 4 | market: (each 3 from 0) | fair: ((date 0 0) > market)"))
'2 3; 2 4 | market: (each 3 from 0) | fair: ((date 0 0) > market)'
"""

SUMS = """
>>> from ladderdays.sums import added_up, amounts, can_keep, firmest, first_over, first_under, is_tight, least, most, tightest, where_least, where_most
>>> row = ([], [1, 0, 2])
>>> [added_up(row), amounts(added_up(row)), most(row), least(row), where_most(row, 2), where_least(row, 1)]
[([], [0, 1, 1], 3), ([], [1, 0, 2]), ([], [0, 2, 3], 3), ([], [0, 0, 1], 3), 2, 1]
>>> [first_over(row, ([], [0, 2, 2], 3)), first_over(row, ([], [0, 2, 3], 3)), first_under(row, ([], [0], 1)), is_tight(([0, 2], [10], 1), 2)]
[(2, 2), None, (1, 1), False]
>>> [can_keep(([], [0, 1], 1), ([0, 0], [1], 0)), can_keep(([0], [1], 0), ([], [0], 1))]
[None, 2]
>>> [tightest(([0, 2], [10], 1)), firmest(([0, 0], [3], 0))]
[([0, 2, 4, 6, 8, 10, 12, 14], [16], 1), ([], [0, 0], 3)]
"""

QUEUES = """
>>> from ladderdays.queues import days_done, days_of_coming, done, first_to_wait, first_unlike_order, greatest_undone, greatest_wait, idle_days, in_a_row, least_office, most_undone, office_for, undone, waits
>>> arrivals, office = ([], [2, 0, 0, 0]), ([], [1])
>>> [done(arrivals, office), undone(arrivals, office, 4), most_undone(arrivals, office), most_undone(([], [2]), office), days_of_coming(arrivals), days_done(arrivals, office)]
[([], [1, 1, 0, 0]), 1, (1, 0), None, ([], [0, 0], 4), ([], [0, 1], 4)]
>>> [waits(arrivals, office), first_to_wait(arrivals, office, 1), in_a_row(arrivals, [office, ([], [0, 3])]), greatest_undone(([], [0, 3], 4), ([], [0], 2)), greatest_wait(([], [0, 3], 4), ([], [0], 2)), least_office(arrivals, 0), least_office(arrivals, 1), office_for(arrivals, 1), idle_days(arrivals, office)]
[(0, 1), 1, [([], [1, 1, 0, 0]), ([], [0, 2, 0, 0])], 1, 1, 2, 1, 1, ([], 0, 4, [2, 3])]
"""

ROSTERS = """
>>> from ladderdays.days import every
>>> from ladderdays.rosters import ahead, breaches, days_with, exchanged, exchanges, fewest, row_of, strength, thin_days, turning, workers
>>> roster = [("ann", every(2, 0)), ("bob", every(2, 1))]
>>> [row_of(every(3, 1)), days_with(([], [1, 0, 2]), 1), workers(roster, 3), strength(roster), thin_days(roster, 2), exchanged(roster, "ann", 0, "bob", 1)]
[([], [0, 1, 0]), ([], 0, 3, [0, 2]), ['bob'], ([], [1]), ([], 0, 1, [0]), [('ann', ([1], 2, 2, [0])), ('bob', ([0], 2, 2, [1]))]]
>>> [breaches(exchanged(roster, "ann", 0, "bob", 1), ([], [0, 1], 1), ([], [0], 0)), ahead(roster, "ann", "bob"), turning(["ann", "bob"], every(3, 0), 1), fewest([every(2, 0), every(3, 0), every(2, 1)], 1, 3), exchanges(roster, "ann", "bob", 4, ([0], [1, 2], 1))]
[[('ann', 2, 1)], (0, 1), [('ann', ([], 0, 3, [0])), ('bob', ([], 0, 3, [1]))], [0, 2], [(0, 1), (2, 1), (2, 3)]]
"""

DESKS = """
>>> from ladderdays.calendars import Calendar
>>> from ladderdays.desks import Desk
>>> from ladderdays.feasts import Almanac
>>> desk = Desk(Almanac(Calendar([[2, 3], [2, 4]]), []))
>>> told = [desk.order("feast market: (each 3 from 0)"), desk.order("term pay: days 1, to market"), desk.order("due pay 4"), desk.order("row in: - / 2 0 0 0"), desk.order("row out: - / 1"), desk.order("line in out"), desk.order("branch b")]
>>> told
['done', 'done', '6', 'done', 'done', '- / 1 1 0 0 : 1', 'done']
>>> [desk.order("hire ann: market"), desk.order("who 3"), desk.order("switch b"), desk.order("who 3"), len(desk), desk.order("undo"), desk.fork, desk.order("names"), desk.rested(([], [0, 1], 1))]
['done', 'ann', 'done', '-', 7, 'done', 'main', 'in out pay', ['ann']]
"""



README = os.path.join(os.path.dirname(os.path.dirname(os.path.abspath(__file__))), "README.md")


class Examples(Case):
    def run_all(self, text, name, many):
        test = doctest.DocTestParser().get_doctest(text, {}, name, name, 0)
        self.assertEqual(len(test.examples), many)
        said = []
        result = doctest.DocTestRunner(verbose=False).run(test, out=said.append)
        self.assertEqual(result.failed, 0, "".join(said))

    def test_days(self):
        self.run_all(DAYS, "days.py", 4)

    def test_ladders(self):
        self.run_all(LADDERS, "ladders.py", 4)

    def test_calendars(self):
        self.run_all(CALENDARS, "calendars.py", 4)

    def test_feasts(self):
        self.run_all(FEASTS, "feasts.py", 6)

    def test_terms(self):
        self.run_all(TERMS, "terms.py", 7)

    def test_diaries(self):
        self.run_all(DIARIES, "diaries.py", 4)

    def test_texts_and_readings(self):
        self.run_all(TEXTS, "readings.py", 5)

    def test_sums(self):
        self.run_all(SUMS, "sums.py", 6)

    def test_queues(self):
        self.run_all(QUEUES, "queues.py", 4)

    def test_rosters(self):
        self.run_all(ROSTERS, "rosters.py", 5)

    def test_desks(self):
        self.run_all(DESKS, "desks.py", 7)

    def test_readme(self):
        with open(README, encoding="utf-8") as file:
            blocks = [block for block in file.read().split("```")[1::2] if ">>>" in block]
        self.run_all("".join(blocks), "README.md", 36)


if __name__ == "__main__":
    unittest.main()
