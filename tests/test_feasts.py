"""The section `ladderdays/feasts.py`: the language of feasts, word by word, and `days_of`."""

import random
import unittest
from itertools import product

from ladderdays.calendars import Calendar
from ladderdays.errors import InvalidNumber, UnknownName
from ladderdays.feasts import Almanac, days_of
from tests.plain import Case, item
from tests.reckon import Book, draw_feast, draw_feasts, draw_years

NONE = ([], 0, 1, [])
ALL = ([], 0, 1, [0])
YEARS = [[2, 1], [3]]
EMPTY = ("on", [])
PARTS = [("each", 1, 0), ("each", 3, 1), ("each", 4, 7), ("each", 6, 5), EMPTY, ("on", [0]), ("on", [2, 3, 9]),
         ("date", 0, 0), ("date", 1, 0), ("date", 4, 0), ("starts",), ("ends",),
         ("either", ("on", [0, 4]), ("each", 4, 10)), ("but", ("each", 2, 0), ("on", [0, 4, 6])),
         ("not", ("on", [1, 2]))]


class Words(Case):
    def check(self, feasts, years=YEARS):
        almanac = Almanac(Calendar(years), [])
        book = Book(years, [], feasts)
        for feast in feasts:
            self.answers(days_of, (almanac, feast), book.told(feast))

    def test_each(self):
        self.check([("each", length, first) for length in range(1, 9) for first in range(10)])
        almanac = Almanac(Calendar([[1]]), [])
        self.answers(days_of, (almanac, ("each", 3, 7)), ([], 5, 3, [2]))
        self.answers(days_of, (almanac, ("each", 1, 0)), ALL)
        self.answers(days_of, (almanac, ("each", 1, 600)), ([], 600, 1, [0]))
        self.answers(days_of, (almanac, ("each", 600, 600)), ([], 1, 600, [599]))

    def test_on(self):
        self.check([("on", days) for days in ([], [0], [1], [0, 1], [0, 1, 2], [5], [2, 3, 9], [0, 19])])
        almanac = Almanac(Calendar([[1]]), [])
        self.answers(days_of, (almanac, EMPTY), NONE)
        self.answers(days_of, (almanac, ("on", [2, 600])), ([2, 600], 601, 1, []))

    def test_dates_starts_and_ends(self):
        chance = random.Random(601)
        for years in [draw_years(chance) for _ in range(30)] + [[[1]], [[1, 1]], [[12]]]:
            feasts = [("date", month, place) for month in range(4) for place in range(5)]
            self.check(feasts + [("starts",), ("ends",)], years)
        almanac = Almanac(Calendar(YEARS), [])
        for feast in (("date", 2, 0), ("date", 0, 3), ("date", 10 ** 9, 0), ("date", 0, 10 ** 9)):
            self.answers(days_of, (almanac, feast), NONE)

    def test_both_either_but_next_last(self):
        for word in ("both", "either", "but", "next", "last"):
            self.check([(word, one, other) for one, other in product(PARTS, PARTS)])

    def test_not(self):
        self.check([("not", one) for one in PARTS] + [("not", ("not", one)) for one in PARTS])

    def test_moved(self):
        self.check([("moved", days, one) for days in range(-13, 14) for one in PARTS])

    def test_nth(self):
        for number in (1, 2, 3, 5):
            self.check([("nth", number, one, other) for one, other in product(PARTS, PARTS)])

    def test_next_by_hand(self):
        almanac = Almanac(Calendar([[1]]), [])
        for one, other, wanted in (
                (("on", [4]), ("on", [4]), ([4], 5, 1, [])), (("on", [4]), ("on", [3]), NONE),
                (("on", [4]), ("on", [9]), ([9], 10, 1, [])), (("on", [1, 2, 5]), ("on", [2, 3]), ([2], 3, 1, [])),
                (("each", 1, 0), ("on", [2, 7]), ([2, 7], 8, 1, [])), (("each", 1, 8), ("on", [2, 7]), NONE),
                (("on", [0, 1]), ("each", 5, 3), ([3], 4, 1, [])), (EMPTY, ("each", 5, 3), NONE),
                (("each", 5, 3), EMPTY, NONE), (("each", 10, 1), ("each", 5, 0), ([], 0, 10, [5])),
                (("each", 1, 600), ("each", 600, 0), ([], 1, 600, [599]))):
            self.answers(days_of, (almanac, ("next", one, other)), wanted)

    def test_last_by_hand(self):
        almanac = Almanac(Calendar([[1]]), [])
        for one, other, wanted in (
                (("on", [4]), ("on", [4]), ([4], 5, 1, [])), (("on", [4]), ("on", [5]), NONE),
                (("on", [9]), ("on", [4]), ([4], 5, 1, [])), (("on", [1, 2, 5]), ("on", [2, 3]), ([2, 3], 4, 1, [])),
                (("each", 1, 0), ("on", [2, 7]), ([2, 7], 8, 1, [])), (("each", 4, 8), ("on", [2, 7]), ([7], 8, 1, [])),
                (("on", [0, 1]), ("each", 5, 3), NONE), (("each", 10, 1), ("each", 5, 0), ([], 0, 10, [0])),
                (EMPTY, ("each", 5, 3), NONE), (("each", 5, 3), EMPTY, NONE)):
            self.answers(days_of, (almanac, ("last", one, other)), wanted)

    def test_nth_by_hand(self):
        almanac = Almanac(Calendar([[1]]), [])
        days = ("on", [1, 2, 5, 9])
        for number, one, other, wanted in (
                (1, days, ("on", [1]), [1]), (2, days, ("on", [1]), [2]), (4, days, ("on", [1]), [9]),
                (5, days, ("on", [1]), []), (1, days, ("on", [3]), [5]), (2, days, ("on", [0, 3]), [2, 9]),
                (3, days, ("on", [0, 3]), []), (3, days, ("on", [0, 9]), [5]), (2, days, ("on", [1, 2]), [5]),
                (1, days, ("on", [10]), []), (1, days, ("each", 1, 0), [1, 2, 5, 9]), (2, days, ("each", 1, 0), []),
                (7, ("each", 3, 0), ("on", [4]), [24]), (600, ("each", 1, 0), ("on", [1, 3]), [602]),
                (2, ("each", 3, 0), ("on", [1, 4]), [9])):
            wanted = (wanted, wanted[-1] + 1, 1, []) if wanted else NONE
            self.answers(days_of, (almanac, ("nth", number, one, other)), wanted)
        self.answers(days_of, (almanac, ("nth", 3, ("each", 3, 0), ("each", 10, 5))), ([], 4, 30, [8, 17, 29]))
        self.answers(days_of, (almanac, ("nth", 4, ("each", 3, 0), ("each", 10, 5))), ([], 0, 30, [24]))
        self.answers(days_of, (almanac, ("nth", 10 ** 31, ("each", 3, 0), ("each", 10, 5))), NONE)

    def test_far_on_the_way(self):
        almanac = Almanac(Calendar([[1]]), [])
        far = ("nth", 10 ** 30, ("each", 3, 0), ("on", [1]))
        self.answers(days_of, (almanac, ("both", far, ("each", 3, 1))), NONE)
        self.answers(days_of, (almanac, ("but", ("on", [5]), far)), ([5], 6, 1, []))
        self.answers(days_of, (almanac, ("next", ("on", [5]), ("but", far, far))), NONE)

    def test_common_rounds_on_the_way(self):
        # The common round of the two is longer than anything that is asked, but few days are common.
        both = ("both", ("each", 599, 0), ("each", 597, 0))
        almanac = Almanac(Calendar([[1]]), [("a", both)])
        self.answers(days_of, (almanac, ("both", ("name", "a"), ("on", [0, 5]))), ([0], 1, 1, []))
        self.answers(days_of, (almanac, ("but", ("on", [0, 5]), ("name", "a"))), ([5], 6, 1, []))


class Deep(Case):
    def drawn(self, seed, many, deep, named=2):
        """Books of feasts with names and feasts that are asked, with the almanacs."""
        chance = random.Random(seed)
        while many > 0:
            years = draw_years(chance, 3, 2, 3)
            feasts = draw_feasts(chance, chance.randint(0, named))
            asked = [draw_feast(chance, [name for name, _ in feasts], deep) for _ in range(3)]
            book = Book(years, feasts, asked)
            if book.end < 3000:
                many -= 1
                yield book, Almanac(Calendar(years), feasts), asked

    def test_feasts_within_feasts(self):
        for deep, many in ((1, 60), (2, 120), (3, 60), (4, 20)):
            for book, almanac, asked in self.drawn(610 + deep, many, deep):
                for feast in asked:
                    self.answers(days_of, (almanac, feast), book.told(feast))

    def test_by_name_and_written_out(self):
        for book, almanac, _ in self.drawn(620, 100, 1, 4):
            for name, feast in book.feasts:
                wanted = book.told(feast)
                self.answers(item, (almanac, name), wanted)
                self.answers(days_of, (almanac, ("name", name)), wanted)
                self.answers(days_of, (almanac, feast), wanted)

    def written_out(self, named, feast):
        """A feast with the feasts that it names in the place of their names."""
        if feast[0] == "name":
            return self.written_out(named, named[feast[1]])
        return tuple(self.written_out(named, part) if isinstance(part, tuple) else part for part in feast)

    def test_names_in_names(self):
        for book, almanac, asked in self.drawn(621, 60, 3, 4):
            for feast in asked:
                plain = self.written_out(book.named, feast)
                self.assertNotIn("name", repr(plain))
                self.answers(days_of, (almanac, plain), days_of(almanac, feast))
                self.answers(days_of, (Almanac(Calendar(book.years), []), plain), days_of(almanac, feast))

    def test_many_parts_that_name_each_other(self):
        # Each names the one ahead of it eight times, so that going through all names again and again takes too long.
        feasts = [("a", ("each", 2, 0))]
        for before, name in zip("abcdefg", "bcdefgh"):
            pair = ("either", ("name", before), ("name", before))
            four = ("both", pair, pair)
            feasts.append((name, ("moved", 1, ("either", four, four))))
        almanac = Almanac(Calendar([[1]]), feasts)
        self.answers(item, (almanac, "h"), ([], 6, 2, [1]))
        self.answers(days_of, (almanac, ("not", ("name", "h"))), ([0, 1, 2, 3, 4, 5], 6, 2, [0]))


class Errors(Case):
    def setUp(self):
        super().setUp()
        self.almanac = Almanac(Calendar(YEARS), [("market", ("each", 3, 0)), ("fair", ("name", "market"))])

    def refused(self, feast, error, value):
        """A feast is refused where it is asked, and where it is put into an almanac, also within others."""
        self.refuses(days_of, (self.almanac, feast), error, value)
        listed = [("market", ("each", 3, 0)), ("fair", ("name", "market"))]
        calendar = Calendar(YEARS)
        self.refuses(Almanac, (calendar, listed + [("last", feast)]), error, value)
        fine = ("either", ("each", 1, 0), ("on", [0]))
        for outer in (("not", feast), ("moved", -7, feast), ("both", feast, fine), ("both", fine, feast),
                      ("either", fine, feast), ("but", fine, feast), ("next", fine, feast), ("last", feast, fine),
                      ("nth", 1, feast, fine), ("nth", 1, fine, feast), ("not", ("not", ("not", feast))),
                      ("both", feast, ("each", -77, -77)), ("next", feast, ("name", "nobody")),
                      ("nth", 2, feast, ("each", 0, 0))):
            self.refuses(days_of, (self.almanac, outer), error, value)
            self.refuses(Almanac, (calendar, listed + [("last", outer)]), error, value)
        for outer, number in ((("nth", 0, feast, feast), 0), (("nth", -3, feast, fine), -3)):
            self.refuses(days_of, (self.almanac, outer), InvalidNumber, number)
            self.refuses(Almanac, (calendar, listed + [("last", outer)]), InvalidNumber, number)

    def test_each(self):
        self.refused(("each", 0, 0), InvalidNumber, 0)
        self.refused(("each", -2, 0), InvalidNumber, -2)
        self.refused(("each", 1, -1), InvalidNumber, -1)
        self.refused(("each", 0, -1), InvalidNumber, 0)
        self.refused(("each", -4, -5), InvalidNumber, -4)
        self.refused(("each", 3, -10 ** 31), InvalidNumber, -10 ** 31)

    def test_on(self):
        for days, value in (([-1], -1), ([0, 0], 0), ([5, 3], 3), ([1, 2, 2, 1], 2), ([3, -4], -4), ([-5, -6], -5),
                            ([0, 1, 2, 5, 4, 9, 3], 4), ([7, 7, -1], 7), ([-1, -1], -1)):
            self.refused(("on", days), InvalidNumber, value)

    def test_date(self):
        self.refused(("date", -1, 0), InvalidNumber, -1)
        self.refused(("date", 0, -1), InvalidNumber, -1)
        self.refused(("date", -2, -3), InvalidNumber, -2)
        self.refused(("date", 99, -3), InvalidNumber, -3)

    def test_nth(self):
        one = ("each", 1, 0)
        self.refused(("nth", 0, one, one), InvalidNumber, 0)
        self.refused(("nth", -9, one, one), InvalidNumber, -9)

    def test_names(self):
        for name in ("nobody", "", "Market", "markets", "marke", "market ", "last"):
            self.refused(("name", name), UnknownName, name)

    def test_what_is_right(self):
        for feast in (("each", 1, 0), ("on", []), ("on", [0]), ("on", [0, 1]), ("date", 0, 0), ("date", 99, 99),
                      ("moved", 0, EMPTY), ("moved", -99, ("each", 1, 0)), ("nth", 1, EMPTY, EMPTY),
                      ("name", "market"), ("name", "fair"), ("starts",), ("ends",), ("moved", 10 ** 9, EMPTY)):
            self.ask(days_of, self.almanac, feast)
            Almanac(Calendar(YEARS), [("market", ("each", 3, 0)), ("fair", ("name", "market")), ("last", feast)])

    def test_the_first_one(self):
        bad = [(("each", 0, 0), InvalidNumber, 0), (("on", [4, 2]), InvalidNumber, 2),
               (("name", "x"), UnknownName, "x"), (("date", -3, 0), InvalidNumber, -3),
               (("nth", -5, EMPTY, EMPTY), InvalidNumber, -5)]
        for (one, error, value), (other, _, _) in product(bad, bad):
            for outer in (("both", one, other), ("next", ("not", one), other),
                          ("last", ("starts",), ("but", one, other)),
                          ("nth", 4, ("moved", -1, ("moved", 1, one)), other), ("either", one, ("moved", 0, other))):
                self.refuses(days_of, (self.almanac, outer), error, value)


if __name__ == "__main__":
    unittest.main()
