"""The section `ladderdays/terms.py`: terms, step by step, and what is told of them."""

import random
import unittest
from itertools import product

from ladderdays.calendars import Calendar
from ladderdays.errors import InvalidNumber, NoDays, UnknownName
from ladderdays.feasts import Almanac, days_of
from ladderdays.terms import (due, first_later, ladder_of, last_start, needless_steps, never_later, passing, shortest,
                              slack, spread)
from tests.plain import Case, number_of
from tests.reckon import Book, draw_feast, draw_feasts, draw_term, draw_years, endless, feasts_in

YEARS = [[2, 3], [2, 4]]
EACH = ("each", 3, 0)
EMPTY = ("on", [])
SAME = ([], [0], 1)
NONE = ([], 0, 1, [])


def made(years, feasts, terms):
    """The book of terms, and their almanac."""
    return Book(years, feasts, [feast for term in terms for feast in feasts_in(term)]), Almanac(Calendar(years), feasts)


def drawn(seed, many, terms=2, deep=1, most=4):
    """Books, almanacs, and some terms."""
    chance = random.Random(seed)
    while many > 0:
        years = draw_years(chance, 3, 2, 3)
        feasts = draw_feasts(chance, chance.randint(0, 2))
        names = [name for name, _ in feasts]
        asked = [draw_feast(chance, names, 2) for _ in range(2)] + [("name", name) for name in names]
        book = Book(years, feasts, asked)
        if book.end > 2500:
            continue
        goals = [feast for feast in asked if endless(book, feast)] + [("each", 1, 0), ("starts",)]
        many -= 1
        yield book, Almanac(Calendar(years), feasts), [draw_term(chance, goals, deep, most) for _ in range(terms)]


class Steps(Case):
    def check(self, terms, years=YEARS, feasts=()):
        book, almanac = made(years, list(feasts), terms)
        for term in terms:
            ladder = book.ladder(term)
            self.answers(ladder_of, (almanac, term), ladder)
            numbers = book.made(term)
            for day in list(range(12)) + list(range(len(numbers)))[-3:]:
                self.answers(due, (almanac, term, day), numbers[day] if day < len(numbers) else number_of(ladder, day))
            for day in (10 ** 30, 10 ** 31 - 5, 10 ** 31):
                self.answers(due, (almanac, term, day), number_of(ladder, day))

    def test_no_step(self):
        self.check([[]])
        self.answers(ladder_of, (Almanac(Calendar([[1]]), []), []), SAME)

    def test_days(self):
        self.check([[("days", number)] for number in (0, 1, 2, 7)])
        almanac = Almanac(Calendar([[1]]), [])
        self.answers(ladder_of, (almanac, [("days", 10 ** 31)]), ([], [10 ** 31], 1))
        self.answers(due, (almanac, [("days", 10 ** 31)], 10 ** 31), 2 * 10 ** 31)

    def test_months_and_years(self):
        chance = random.Random(801)
        for years in [draw_years(chance) for _ in range(12)] + [YEARS, [[1]], [[3, 1, 2], [4]], [[1, 2], [1]]]:
            self.check([[(word, number)] for word in ("months", "years") for number in range(7)], years)

    def test_far_months_and_years(self):
        calendar = Calendar([[3, 1, 2], [4]])
        almanac = Almanac(calendar, [])
        for number in (10 ** 30, 10 ** 30 + 1, 10 ** 31):
            self.answers(ladder_of, (almanac, [("months", number)]), calendar.months_on(number))
            self.answers(ladder_of, (almanac, [("years", number)]), calendar.years_on(number))
            for day in (0, 4, 5, 10 ** 31 + 3):
                self.answers(due, (almanac, [("months", number)], day), number_of(calendar.months_on(number), day))
                self.answers(due, (almanac, [("years", number)], day), number_of(calendar.years_on(number), day))

    def test_to_and_work(self):
        goals = [("each", 1, 0), ("each", 4, 7), ("each", 6, 2), ("starts",), ("ends",), ("date", 0, 2), ("name", "m"),
                 ("not", ("on", [0, 1, 2, 3])), ("either", ("on", [1, 2]), ("each", 5, 20)),
                 ("either", ("starts",), EACH), ("but", ("each", 1, 0), ("each", 3, 1))]
        for goal in goals:
            terms = [[("to", goal)]] + [[("work", number, goal)] for number in (1, 2, 3, 7)]
            self.check(terms, [[2, 1], [3]], [("m", EACH)])

    def test_far_work(self):
        almanac = Almanac(Calendar([[1]]), [])
        feast = ("but", ("each", 1, 0), ("each", 3, 1))
        number = 2 * 10 ** 30
        wanted = ([], [3 * 10 ** 30, 3 * 10 ** 30, 3 * 10 ** 30 + 2], 3)
        self.answers(ladder_of, (almanac, [("work", number, feast)]), wanted)
        self.answers(due, (almanac, [("work", number + 1, feast)], 0), 3 * 10 ** 30 + 2)
        self.answers(due, (almanac, [("work", number, feast)], 10 ** 31 + 1), 13 * 10 ** 30 + 1)

    def test_work_is_behind_the_day(self):
        almanac = Almanac(Calendar([[1]]), [])
        self.assertEqual([due(almanac, [("work", 1, EACH)], day) for day in range(7)], [3, 3, 3, 6, 6, 6, 9])
        self.assertEqual([due(almanac, [("to", EACH)], day) for day in range(7)], [0, 3, 3, 3, 6, 6, 6])
        self.assertEqual([due(almanac, [("work", 3, EACH)], day) for day in range(4)], [9, 9, 9, 12])

    def test_not_before(self):
        self.check([[("not before", day)] for day in (0, 1, 5, 60)])
        almanac = Almanac(Calendar([[1]]), [])
        self.answers(ladder_of, (almanac, [("not before", 600)]), ([600] * 600, [600], 1))
        self.answers(due, (almanac, [("not before", 600)], 599), 600)
        self.answers(due, (almanac, [("not before", 600)], 10 ** 31), 10 ** 31)

    def test_earlier_and_later(self):
        terms = [[], [("days", 3)], [("to", EACH)], [("work", 2, EACH)], [("months", 1)], [("not before", 9)],
                 [("to", ("ends",)), ("days", 1)]]
        for word in ("earlier", "later"):
            self.check([[(word, one, other)] for one, other in product(terms, terms)])

    def test_several_steps(self):
        for book, almanac, terms in drawn(802, 150, deep=2):
            for term in terms:
                ladder = book.ladder(term)
                self.answers(ladder_of, (almanac, term), ladder)
                for day in (0, 1, 2, 3, 7, 11):
                    self.answers(due, (almanac, term, day), book.go(term, day))
                for day in (10 ** 30, 10 ** 31):
                    self.answers(due, (almanac, term, day), number_of(ladder, day))

    def test_three_deep(self):
        for book, almanac, terms in drawn(803, 60, terms=1, deep=3, most=6):
            for term in terms:
                self.answers(ladder_of, (almanac, term), book.ladder(term))
                self.answers(due, (almanac, term, 5), book.go(term, 5))

    def test_great_rounds(self):
        years = [[12] * 5 + [5], [12] * 4 + [5, 12]]
        almanac = Almanac(Calendar(years), [("a", ("but", ("each", 1, 0), ("each", 15, 4))), ("b", ("each", 600, 17))])
        book = Book(years, almanac.feasts)
        self.assertEqual(book.length, 7800)
        term = [("work", 3, ("name", "a")), ("months", 2), ("work", 10, ("name", "a"))]
        book = Book(years, almanac.feasts[:1])
        self.answers(ladder_of, (almanac, term), book.ladder(term))
        self.answers(due, (almanac, [("to", ("name", "b"))], 10 ** 30), 10 ** 30 + (17 - 10 ** 30) % 600)


class Told(Case):
    def both(self, seed, many, deep=1, most=3):
        """Pairs of terms with what they make of days, as many as settle all; drawn ones, and some that are near."""
        chance = random.Random(seed)
        for book, almanac, (one, other) in drawn(seed, many, 2, deep, most):
            near = chance.choice([list(one), one + [("days", 0)], one + [("days", 1)], [("days", 1)] + one,
                                  [("later", one, other)], [("earlier", other, one)], other + one])
            for ones, others in ((one, other), (one, near), (near, one)):
                days = max(book.start(ones), book.start(others)) + 2 * book.length
                pairs = [(book.go(ones, day), book.go(others, day)) for day in range(days)]
                yield book, almanac, ones, others, pairs

    def test_never_later_and_first_later(self):
        for _, almanac, one, other, pairs in self.both(811, 100):
            days = [day for day, (here, there) in enumerate(pairs) if here > there]
            self.answers(first_later, (almanac, one, other), days[0] if days else None)
            self.answers(never_later, (almanac, one, other), not days)

    def test_slack(self):
        for _, almanac, one, other, pairs in self.both(812, 100):
            lengths = [there - here for here, there in pairs]
            self.answers(slack, (almanac, one, other), (min(lengths), max(lengths)))

    def test_spread(self):
        for book, almanac, terms in drawn(813, 150, deep=2):
            for term in terms:
                lengths = [there - day for day, there in enumerate(book.made(term))]
                self.answers(spread, (almanac, term), (min(lengths), max(lengths)))

    def test_last_start(self):
        for book, almanac, terms in drawn(814, 80):
            for term in terms:
                numbers = book.made(term)
                for day in list(range(10)) + [numbers[0] - 1, numbers[0], numbers[-1] - 1]:
                    if 0 <= day < len(numbers):
                        days = [start for start, there in enumerate(numbers) if there <= day]
                        self.answers(last_start, (almanac, term, day), days[-1] if days else None)

    def test_last_start_far(self):
        for book, almanac, terms in drawn(815, 80):
            for term in terms:
                ladder = book.ladder(term)
                for day in (10 ** 30, 10 ** 30 + 1, 10 ** 30 + 7, 10 ** 31):
                    found = self.ask(last_start, almanac, term, day)
                    self.assertLessEqual(number_of(ladder, found), day)
                    self.assertGreater(number_of(ladder, found + 1), day)

    def test_last_start_none(self):
        almanac = Almanac(Calendar(YEARS), [])
        for term, day, wanted in (
                ([], 0, 0), ([("days", 5)], 4, None), ([("days", 5)], 5, 0), ([("days", 10 ** 31)], 10 ** 31 - 1, None),
                ([("days", 10 ** 31)], 10 ** 31, 0), ([("days", 10 ** 30)], 10 ** 31, 9 * 10 ** 30),
                ([("not before", 60)], 59, None), ([("not before", 60)], 60, 60), ([("work", 1, EACH)], 2, None),
                ([("work", 1, EACH)], 3, 2), ([("to", EACH)], 2, 0), ([("to", ("each", 7, 4))], 3, None),
                ([("to", ("each", 7, 4))], 4, 4), ([("to", ("each", 7, 4))], 10, 4), ([("months", 1)], 1, None),
                ([("months", 10 ** 30)], 10 ** 30, None), ([("work", 10 ** 30, EACH)], 3 * 10 ** 30, 2),
                ([("work", 10 ** 30, EACH)], 3 * 10 ** 30 - 1, None)):
            self.answers(last_start, (almanac, term, day), wanted)

    def test_passing(self):
        for book, almanac, one, other, pairs in self.both(816, 60, 1, 2):
            days = range(len(pairs))
            wanted = all(book.go(one + other, day) == book.go(other + one, day) for day in days)
            self.answers(passing, (almanac, one, other), wanted)

    def test_passing_by_hand(self):
        almanac = Almanac(Calendar(YEARS), [])
        for one, other, wanted in (
                ([], [("to", EACH)], True), ([("days", 3)], [("to", EACH)], True),
                ([("days", 2)], [("to", EACH)], False),
                ([("days", 10 ** 30)], [("days", 7)], True), ([("days", 22 * 10 ** 30)], [("months", 1)], True),
                ([("days", 22 * 10 ** 30 + 1)], [("months", 1)], False), ([("years", 1)], [("years", 2)], True),
                ([("to", ("each", 2, 0))], [("to", ("each", 4, 0))], True),
                ([("to", ("each", 2, 0))], [("to", ("each", 3, 0))], False),
                ([("not before", 7)], [("days", 1)], False),
                ([("not before", 7)], [("not before", 9)], True), ([("not before", 8)], [("to", EACH)], False),
                ([("not before", 9)], [("to", EACH)], True), ([("months", 4)], [("to", ("starts",))], True),
                ([("to", ("each", 599, 0))], [("to", ("each", 600, 0))], False),
                # Only the last days of the round tell them apart.
                ([("to", ("not", ("each", 500, 499)))], [("to", ("not", ("each", 500, 498)))], False)):
            self.answers(passing, (almanac, one, other), wanted)
            self.answers(passing, (almanac, other, one), wanted)

    def test_needless_steps(self):
        chance = random.Random(817)
        for book, almanac, (term, other) in drawn(817, 100, 2, 1, 3):
            again = [list(term) + [("days", 0)] + list(term[-1:]), [("later", term, []), ("not before", 0)] + term]
            for steps in [term, term + other] + [chance.choice(again)]:
                days = range(book.start(steps) + 2 * book.length)
                wanted = [at for at in range(len(steps))
                          if all(book.go(steps[:at] + steps[at + 1:], day) == book.go(steps, day) for day in days)]
                self.answers(needless_steps, (almanac, steps), wanted)

    def test_needless_steps_by_hand(self):
        almanac = Almanac(Calendar(YEARS), [])
        to = ("to", EACH)
        for term, wanted in (
                ([], []), ([("days", 0)], [0]), ([("days", 1)], []), ([to, to], [0, 1]), ([to, to, to], [0, 1, 2]),
                ([("not before", 0), to], [0]), ([("not before", 7), ("not before", 9)], [0]),
                ([("not before", 9), ("not before", 7)], [1]), ([("to", ("each", 6, 0)), to], [1]),
                ([to, ("to", ("each", 6, 0))], [0]), ([to, ("days", 3), to], [0, 2]),
                ([("earlier", [], [("days", 5)])], [0]), ([("months", 0), ("years", 0), ("days", 10 ** 30)], [0, 1]),
                ([("not before", 600)], []), ([("not before", 600), ("to", ("each", 1, 600))], [0, 1])):
            self.answers(needless_steps, (almanac, term), wanted)

    def test_shortest(self):
        chance = random.Random(818)
        for book, almanac, terms in drawn(818, 60, 3, 1, 1):
            steps = [step for term in terms for step in term] + [("days", 1), ("days", 0)][:chance.randint(0, 2)]
            chance.shuffle(steps)
            steps = steps[:4]
            chosen = [chance.choice(steps) for _ in range(chance.randint(0, 3))] if steps else []
            for term in (chosen, terms[0], [("later", chosen, chosen)]):
                for most in (0, 1, 2, 3):
                    self.answers(shortest, (almanac, steps, term, most), self.plain_shortest(book, steps, term, most))

    def plain_shortest(self, book, steps, term, most):
        days = range(max(book.start(term), book.start(steps)) + 2 * book.length)
        numbers = [book.go(term, day) for day in days]
        for many in range(most + 1):
            for indexes in product(range(len(steps)), repeat=many):
                way = [steps[at] for at in indexes]
                if all(book.go(way, day) == numbers[day] for day in days):
                    return list(indexes)
        return None

    def test_shortest_by_hand(self):
        almanac = Almanac(Calendar(YEARS), [])
        one, two, to = ("days", 1), ("days", 2), ("to", EACH)
        for steps, term, most, wanted in (
                ([], [], 0, []), ([], [], 3, []), ([], [one], 3, None), ([one], [], 3, []),
                ([one], [("days", 3)], 3, [0, 0, 0]), ([one], [("days", 3)], 2, None), ([one], [("days", 4)], 3, None),
                ([one, two], [("days", 3)], 3, [0, 1]),
                ([two, one], [("days", 3)], 3, [0, 1]), ([two, one], [("days", 4)], 3, [0, 0]),
                ([one, one, one], [one], 3, [0]), ([to, one], [("work", 1, EACH)], 3, [1, 0]),
                ([to], [to, to, to], 3, [0]), ([to], [to], 0, None), ([to], [("days", 0)], 0, []),
                ([one, to, two], [("work", 2, EACH)], 3, [2, 2, 1]), ([one, to], [("work", 2, EACH)], 3, None),
                ([one, to, ("days", 4)], [("work", 2, EACH)], 3, [2, 1]),
                ([("days", 10 ** 30)], [("days", 3 * 10 ** 30)], 3, [0, 0, 0]),
                ([("months", 1), ("months", 2)], [("months", 4)], 3, None),
                ([("months", 1), ("months", 2)], [("months", 2), ("months", 2)], 3, [1, 1]),
                ([("to", ("each", 600, 0)), ("to", ("each", 599, 0)), ("to", ("each", 597, 0)), one], [("days", 4)], 3,
                 None)):
            self.answers(shortest, (almanac, steps, term, most), wanted)

    def test_by_hand(self):
        almanac = Almanac(Calendar(YEARS), [("market", EACH)])
        to, one, far = [("to", ("name", "market"))], [("days", 1)], [("days", 10 ** 31)]
        self.answers(never_later, (almanac, to, [("days", 2)]), True)
        self.answers(never_later, (almanac, [("days", 2)], to), False)
        self.answers(first_later, (almanac, to, one), 1)
        self.answers(first_later, (almanac, one, to), 0)
        self.answers(first_later, (almanac, to, to), None)
        self.answers(first_later, (almanac, [("not before", 600)], [("days", 1)]), 0)
        self.answers(first_later, (almanac, [("days", 1)], [("not before", 600)]), 600)
        self.answers(slack, (almanac, to, to), (0, 0))
        self.answers(slack, (almanac, far, one), (1 - 10 ** 31, 1 - 10 ** 31))
        self.answers(slack, (almanac, one, [("not before", 600)]), (-1, 599))
        self.answers(spread, (almanac, far + to), (10 ** 31, 10 ** 31 + 2))
        self.answers(spread, (almanac, []), (0, 0))
        self.answers(spread, (almanac, [("not before", 600)]), (0, 600))

    def test_long_rounds_of_two(self):
        almanac = Almanac(Calendar(YEARS), [])
        one, other = [("to", ("each", 600, 0))], [("to", ("each", 599, 3))]
        self.answers(slack, (almanac, one, other), (-599, 598))
        self.answers(first_later, (almanac, one, other), 1)
        self.answers(never_later, (almanac, [("days", 599)], one), False)
        self.answers(never_later, (almanac, one, [("days", 599)]), True)


class Errors(Case):
    def setUp(self):
        super().setUp()
        self.almanac = Almanac(Calendar(YEARS), [("market", EACH), ("few", ("on", [4, 9])), ("none", EMPTY)])

    def calls(self, term):
        """All calls in which a term comes ahead of what is right, or is wrong in another way."""
        almanac, fine = self.almanac, [("days", 1)]
        wrong = [("to", ("name", "few")), ("days", -99)]
        return [(due, (almanac, term, 3)), (due, (almanac, term, -7)), (ladder_of, (almanac, term)),
                (never_later, (almanac, term, fine)), (never_later, (almanac, fine, term)),
                (never_later, (almanac, term, wrong)), (first_later, (almanac, term, fine)),
                (first_later, (almanac, fine, term)), (first_later, (almanac, term, wrong)),
                (slack, (almanac, term, fine)), (slack, (almanac, fine, term)), (slack, (almanac, term, wrong)),
                (last_start, (almanac, term, 3)), (last_start, (almanac, term, -7)), (passing, (almanac, term, fine)),
                (passing, (almanac, fine, term)), (passing, (almanac, term, wrong)), (needless_steps, (almanac, term)),
                (shortest, (almanac, term, fine, 2)), (shortest, (almanac, fine, term, 2)),
                (shortest, (almanac, term, wrong, -1)), (shortest, (almanac, [], term, -1)), (spread, (almanac, term))]

    def refused(self, term, error, value):
        for function, passed in self.calls(term):
            self.refuses(function, passed, error, value)

    def test_numbers(self):
        for word in ("days", "months", "years", "not before"):
            for number in (-1, -5, -10 ** 31):
                self.refused([(word, number)], InvalidNumber, number)
        for number in (0, -1, -5, -10 ** 31):
            self.refused([("work", number, EACH)], InvalidNumber, number)

    def test_feasts(self):
        for feast, error, value in ((("each", 0, 0), InvalidNumber, 0), (("name", "x"), UnknownName, "x"),
                                    (("on", [4, 4]), InvalidNumber, 4), (("date", 0, -2), InvalidNumber, -2),
                                    (("not", ("nth", 0, EACH, EACH)), InvalidNumber, 0),
                                    (("both", ("name", "few"), ("name", "y")), UnknownName, "y")):
            self.refused([("to", feast)], error, value)
            self.refused([("work", 2, feast)], error, value)
            self.refused([("work", -3, feast)], InvalidNumber, -3)

    def test_step_by_step(self):
        self.refused([("days", 1), ("months", -2), ("years", -3)], InvalidNumber, -2)
        self.refused([("to", EACH), ("to", ("name", "x")), ("days", -1)], UnknownName, "x")
        self.refused([("days", -1), ("to", ("name", "x"))], InvalidNumber, -1)
        self.refused([("work", 1, ("each", -4, 0)), ("work", 0, EACH)], InvalidNumber, -4)

    def test_terms_where_they_stand(self):
        for word in ("earlier", "later"):
            self.refused([(word, [("days", -2)], [("days", -3)]), ("days", -4)], InvalidNumber, -2)
            self.refused([(word, [("days", 2)], [("to", ("name", "x"))]), ("days", -4)], UnknownName, "x")
            self.refused([("days", -1), (word, [("days", -2)], [])], InvalidNumber, -1)
            self.refused([(word, [("later", [], [(word, [("work", 0, EACH)], [("days", -1)])])], [("days", -9)])],
                         InvalidNumber, 0)
            self.refused([(word, [("to", ("name", "few"))], [("days", -3)])], InvalidNumber, -3)

    def test_no_days(self):
        few, none = ([4, 9], 10, 1, []), NONE
        self.refused([("to", ("name", "few"))], NoDays, few)
        self.refused([("work", 1, ("name", "few"))], NoDays, few)
        self.refused([("to", EMPTY)], NoDays, none)
        self.refused([("work", 3, ("date", 7, 7))], NoDays, none)
        self.refused([("to", ("on", [0]))], NoDays, ([0], 1, 1, []))
        self.refused([("to", EACH), ("work", 1, ("name", "few")), ("to", ("name", "none"))], NoDays, few)
        self.refused([("to", ("name", "none")), ("work", 1, ("name", "few"))], NoDays, none)
        for word in ("earlier", "later"):
            self.refused([(word, [("to", EACH)], [("to", ("name", "few"))]), ("to", EMPTY)], NoDays, few)
            self.refused([(word, [], [(word, [("work", 2, EMPTY)], [("to", ("name", "few"))])])], NoDays, none)

    def test_no_days_comes_behind_the_whole_term(self):
        self.refused([("to", ("name", "few")), ("days", -1)], InvalidNumber, -1)
        self.refused([("work", 1, EMPTY), ("to", ("name", "x"))], UnknownName, "x")
        self.refused([("earlier", [("to", EMPTY)], []), ("later", [], [("work", 0, EACH)])], InvalidNumber, 0)

    def test_the_set_is_new_and_in_its_least_way(self):
        for feast in (("name", "few"), ("on", [4, 9]), ("both", ("name", "few"), ("each", 1, 0)),
                      ("moved", -2, ("on", [1, 6, 11]))):
            self.refused([("to", feast)], NoDays, ([4, 9], 10, 1, []))

    def test_two_terms(self):
        almanac = self.almanac
        bad = [([("days", -1)], InvalidNumber, -1), ([("to", ("name", "few"))], NoDays, ([4, 9], 10, 1, [])),
               ([("to", ("name", "x"))], UnknownName, "x"), ([("work", 0, EACH)], InvalidNumber, 0)]
        for (one, error, value), (other, _, _) in product(bad, bad):
            for function in (never_later, first_later, slack, passing):
                self.refuses(function, (almanac, one, other), error, value)
            self.refuses(shortest, (almanac, one, other, -3), error, value)

    def test_numbers_behind_terms(self):
        for number in (-1, -10 ** 31):
            self.refuses(due, (self.almanac, [("days", 1)], number), InvalidNumber, number)
            self.refuses(due, (self.almanac, [], number), InvalidNumber, number)
            self.refuses(last_start, (self.almanac, [("to", EACH)], number), InvalidNumber, number)
            self.refuses(shortest, (self.almanac, [("days", 1)], [("days", 1)], number), InvalidNumber, number)
            self.refuses(shortest, (self.almanac, [], [], number), InvalidNumber, number)

    def test_what_is_right(self):
        for term in ([], [("days", 0)], [("months", 0)], [("years", 0)], [("not before", 0)], [("work", 1, EACH)],
                     [("to", ("name", "market"))], [("earlier", [], [])],
                     [("later", [("earlier", [], [])], [("to", EACH)])],
                     [("to", ("not", EMPTY))], [("to", ("but", EACH, ("name", "few")))]):
            for function, passed in self.calls(term):
                if "-" not in repr(passed[1:]):
                    self.ask(function, *passed)

    def test_days_of_the_same(self):
        term = [("to", ("name", "market")), ("to", ("name", "market"))]
        self.answers(ladder_of, (self.almanac, term), ([], [0, 3, 3], 3))
        self.answers(days_of, (self.almanac, ("name", "market")), ([], 0, 3, [0]))


if __name__ == "__main__":
    unittest.main()
