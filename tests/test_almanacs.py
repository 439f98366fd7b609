"""The section `ladderdays/feasts.py`: the class `Almanac`, and what is told of several feasts."""

import random
import unittest

from ladderdays.calendars import Calendar
from ladderdays.errors import DoubleName, InvalidName, InvalidNumber, UnknownName
from ladderdays.feasts import Almanac, busiest, days_of, distances, needless, never_meeting
from tests.plain import Case, feasts_of, item
from tests.reckon import Book, draw_feast, draw_feasts, draw_years

NONE = ([], 0, 1, [])
YEARS = [[2, 3], [2, 4]]
EACH = ("each", 3, 0)
EMPTY = ("on", [])


def books(seed, many, named=5, asked=2, deep=1):
    """Books and the almanacs of their feasts, and some feasts that are asked."""
    chance = random.Random(seed)
    while many > 0:
        years = draw_years(chance, 3, 2, 3)
        feasts = draw_feasts(chance, chance.randint(0, named), deep)
        more = [draw_feast(chance, [name for name, _ in feasts], deep + 1) for _ in range(asked)]
        book = Book(years, feasts, more)
        if book.end < 3000:
            many -= 1
            yield book, Almanac(Calendar(years), feasts), more


class Whole(Case):
    def test_properties(self):
        for book, almanac, _ in books(701, 40):
            self.answers(feasts_of, (almanac,), book.feasts)
            self.assertEqual(almanac.calendar, Calendar(book.years))
            self.told(len(almanac), len(book.feasts))
        calendar = Calendar(YEARS)
        almanac = Almanac(feasts=[("a", EACH)], calendar=calendar)
        self.assertIs(almanac.calendar, calendar)
        self.answers(feasts_of, (almanac,), [("a", EACH)])
        self.told(len(Almanac(calendar, [])), 0)
        self.told(Almanac(calendar, []).feasts, [])

    def test_items(self):
        for book, almanac, _ in books(702, 60):
            for name, feast in book.feasts:
                self.answers(item, (almanac, name), book.told(feast))

    def test_unknown_items(self):
        almanac = Almanac(Calendar(YEARS), [("market", EACH), ("a", EMPTY)])
        for name in ("b", "", "Market", "marke", "markets", "nameless", "keys", "each", "A"):
            self.refuses(item, (almanac, name), UnknownName, name)
        self.refuses(item, (Almanac(Calendar(YEARS), []), "market"), UnknownName, "market")

    def test_the_feasts_change_behind(self):
        days = [1, 4]
        feasts = [("a", ("on", days)), ("b", ("both", ("on", days), ("not", ("on", days)))), ("c", ("name", "a"))]
        calendar = Calendar(YEARS)
        almanac = Almanac(calendar, feasts)
        kept = [("a", ("on", [1, 4])), ("b", ("both", ("on", [1, 4]), ("not", ("on", [1, 4])))), ("c", ("name", "a"))]
        for change in (lambda: days.append(9), lambda: feasts.pop(), lambda: feasts.append(("z", EACH)),
                       lambda: almanac.feasts.append(("z", EACH)), lambda: almanac.feasts[0][1][1].append(77),
                       lambda: almanac["a"][0].append(55), lambda: almanac["c"][3].append(55)):
            change()
            self.told(almanac.feasts, kept)
            self.told(len(almanac), 3)
            self.told(almanac["a"], ([1, 4], 5, 1, []))
            self.told(almanac["b"], NONE)
            self.told(almanac["c"], ([1, 4], 5, 1, []))
            self.assertTrue(almanac == Almanac(calendar, kept))
            self.told(busiest(almanac), (2, 1))
        self.apart_from(almanac.feasts, almanac.feasts, feasts)

    def test_the_years_change_behind(self):
        years = [[2, 3], [2, 4]]
        almanac = Almanac(Calendar(years), [("s", ("starts",)), ("d", ("date", 1, 3))])
        years[0][0] = 9
        years.pop()
        self.told(almanac["s"], ([], 0, 11, [0, 2, 5, 7]))
        almanac.calendar.years.append([1])
        self.told(almanac["s"], ([], 0, 11, [0, 2, 5, 7]))
        self.told(almanac["d"], ([], 0, 11, [10]))

    def test_two_almanacs_of_one_calendar_by_turns(self):
        calendar = Calendar(YEARS)
        one = Almanac(calendar, [("a", ("starts",)), ("b", ("moved", 1, ("name", "a")))])
        other = Almanac(calendar, [("b", ("ends",)), ("a", ("but", ("name", "b"), ("each", 2, 0)))])
        for _ in range(2):
            self.told(one["a"], ([], 0, 11, [0, 2, 5, 7]))
            self.told(other["a"], ([], 0, 22, [1, 15, 17, 21]))
            self.told(one["b"], ([], 0, 11, [1, 3, 6, 8]))
            self.told(other["b"], ([], 0, 11, [1, 4, 6, 10]))
            self.told(days_of(one, ("name", "b")), one["b"])
            self.told(days_of(other, ("name", "b")), other["b"])
            self.told(busiest(one), (1, 0))
            self.told(busiest(other), (2, 1))
            self.told(one.calendar == other.calendar, True)

    def test_equal(self):
        feasts = [("a", EACH), ("b", ("on", [1, 2])), ("c", ("both", ("name", "a"), ("name", "b")))]
        almanac = Almanac(Calendar(YEARS), feasts)
        for years in (YEARS, YEARS * 2, YEARS * 3):
            other = Almanac(Calendar(years), [("a", EACH), ("b", ("on", [1, 2])),
                                              ("c", ("both", ("name", "a"), ("name", "b")))])
            self.assertIs(almanac == other, True)
            self.assertIs(almanac != other, False)
            self.assertIs(other == almanac, True)
        self.assertIs(Almanac(Calendar([[1]]), []) == Almanac(Calendar([[1], [1]]), []), True)

    def test_unlike(self):
        feasts = [("a", EACH), ("b", ("on", [1, 2])), ("c", ("both", ("name", "a"), ("name", "b")))]
        almanac = Almanac(Calendar(YEARS), feasts)
        for years, others in (
                ([[2, 3], [2, 5]], feasts), ([[2, 4], [2, 3]], feasts), ([[2, 3]], feasts), (YEARS, feasts[:2]),
                (YEARS, feasts + [("d", EACH)]), (YEARS, [feasts[1], feasts[0], feasts[2]]), (YEARS, []),
                (YEARS, [("a", EACH), ("b", ("on", [1, 2])), ("d", ("both", ("name", "a"), ("name", "b")))]),
                (YEARS, [("a", EACH), ("b", ("on", [1, 2])), ("c", ("both", ("name", "b"), ("name", "a")))]),
                # Written unlike, though the days are the same.
                (YEARS, [("a", EACH), ("b", ("on", [1, 2])), ("c", ("both", EACH, ("name", "b")))]),
                (YEARS, [("a", ("moved", 0, EACH))] + feasts[1:])):
            other = Almanac(Calendar(years), others)
            self.assertIs(almanac == other, False)
            self.assertIs(other == almanac, False)
            self.assertIs(almanac != other, True)

    def test_not_equal_to_anything_else(self):
        calendar, feasts = Calendar(YEARS), [("a", EACH)]
        almanac = Almanac(calendar, feasts)

        class Like:
            def __init__(self):
                self.calendar = self._calendar = calendar
                self.feasts = self._feasts = feasts

        for thing in (calendar, feasts, (calendar, feasts), None, 1, True, "a", Like(), Almanac, [], {"a": EACH}):
            self.assertIs(almanac == thing, False)
            self.assertIs(thing == almanac, False)
            self.assertIs(almanac != thing, True)
        self.assertIs(Almanac(calendar, []) == [], False)

    def test_only_compared(self):
        # What their feasts have in common may be of any size, as long as nobody asks for it.
        feast = ("not", ("each", 599, 0))
        for length in (600, 593, 587, 577):
            feast = ("either", feast, ("next", ("each", length, 1), ("moved", -600, ("each", length - 1, 0))))
        far = ("either", ("each", 999999999, 5), ("not", ("each", 999999998, 10 ** 9 - 1)))
        for written in (feast, far, ("last", far, feast)):
            one = Almanac(Calendar(YEARS), [("a", written), ("b", ("both", ("name", "a"), written))])
            other = Almanac(Calendar(YEARS * 2), [("a", written), ("b", ("both", ("name", "a"), written))])
            self.assertIs(one == other, True)
            self.assertIs(one == Almanac(Calendar(YEARS), [("a", written)]), False)
            self.told(len(one), 2)
            self.told(one.feasts, other.feasts)
            self.refuses(item, (one, "c"), UnknownName, "c")
            self.refuses(days_of, (one, ("both", ("name", "a"), ("name", "c"))), UnknownName, "c")
            self.refuses(distances, (one, ("name", "a"), ("each", 0, 0)), InvalidNumber, 0)

    def test_not_iterated_over(self):
        with self.assertRaises(TypeError):
            list(Almanac(Calendar(YEARS), [("a", EACH)]))


class Errors(Case):
    def refused(self, feasts, error, value):
        self.refuses(Almanac, (Calendar(YEARS), feasts), error, value)

    def test_names(self):
        for name in ("", "ninechars", "A", "aB", "a b", " a", "a1", "1", "a_b", "a-b", "abc.", "a\n", "\n", "-",
                     "{", "`", "@", "[", "z{", "aaaaaaaaaaaaa", "\u00e4", "\u0430"):
            self.refused([(name, EACH)], InvalidName, name)
            self.refused([("fine", EACH), (name, EACH)], InvalidName, name)
            self.refused([(name, ("each", 0, 0)), ("fine", ("name", "x")), ("fine", EACH)], InvalidName, name)
            self.refused([("fine", ("each", 0, 0)), ("fine", EACH), (name, EACH)], InvalidName, name)
        for name in ("a", "z", "az", "abcdefgh", "zzzzzzzz", "each", "on", "name", "th", "from", "main"):
            self.answers(item, (Almanac(Calendar(YEARS), [(name, EACH)]), name), ([], 0, 3, [0]))

    def test_first_of_several_names(self):
        self.refused([("A", EACH), ("B", EACH)], InvalidName, "A")
        self.refused([("a", EACH), ("C", EACH), ("B", EACH), ("a", EACH)], InvalidName, "C")

    def test_doubles(self):
        self.refused([("a", EACH), ("a", EACH)], DoubleName, "a")
        self.refused([("a", EACH), ("b", EACH), ("b", EACH), ("a", EACH)], DoubleName, "b")
        self.refused([("a", EACH), ("b", EACH), ("a", EACH), ("b", EACH)], DoubleName, "a")
        self.refused([("b", EACH), ("c", EACH), ("a", EACH), ("c", EACH), ("b", EACH)], DoubleName, "c")
        self.refused([("a", ("each", 0, 0)), ("b", ("name", "x")), ("a", EACH)], DoubleName, "a")

    def test_feast_by_feast(self):
        self.refused([("a", ("each", 0, 0)), ("b", ("each", -1, 0))], InvalidNumber, 0)
        self.refused([("a", EACH), ("b", ("each", -1, 0)), ("c", ("name", "x"))], InvalidNumber, -1)
        self.refused([("a", EACH), ("b", ("name", "x")), ("c", ("each", -1, 0))], UnknownName, "x")

    def test_names_that_do_not_stand_ahead(self):
        self.refused([("a", ("name", "a"))], UnknownName, "a")
        self.refused([("a", ("name", "b")), ("b", EACH)], UnknownName, "b")
        self.refused([("a", EACH), ("b", ("both", ("name", "a"), ("name", "c"))), ("c", EACH)], UnknownName, "c")
        self.refused([("a", EACH), ("b", ("not", ("moved", 2, ("name", "b"))))], UnknownName, "b")
        almanac = Almanac(Calendar(YEARS), [("a", EACH), ("b", ("name", "a")),
                                            ("c", ("both", ("name", "b"), ("name", "a")))])
        self.answers(item, (almanac, "c"), ([], 0, 3, [0]))

    def test_functions(self):
        almanac = Almanac(Calendar(YEARS), [("a", EACH)])
        bad = [(("each", 0, 0), InvalidNumber, 0), (("name", "b"), UnknownName, "b"),
               (("on", [3, 3]), InvalidNumber, 3), (("not", ("date", 0, -8)), InvalidNumber, -8)]
        for feast, error, value in bad:
            self.refuses(days_of, (almanac, feast), error, value)
            self.refuses(distances, (almanac, feast, EACH), error, value)
            self.refuses(distances, (almanac, EACH, feast), error, value)
            self.refuses(distances, (almanac, EMPTY, feast), error, value)
            for other, _, _ in bad:
                self.refuses(distances, (almanac, feast, other), error, value)


class OfSeveral(Case):
    def plain_distances(self, book, one, other):
        here, there = book.bits(one), book.bits(other)
        lengths = []
        for day in range(book.looked()):
            if here[day]:
                late = [then for then in range(day, book.looked() + 2 * book.length) if there[then]]
                lengths.append(late[0] - day if late else None)
        if not lengths:
            return None
        known = [length for length in lengths if length is not None]
        return min(known, default=None), None if None in lengths else max(lengths)

    def test_distances(self):
        for book, almanac, asked in books(711, 150, 3, 3):
            for one in asked:
                for other in asked:
                    self.answers(distances, (almanac, one, other), self.plain_distances(book, one, other))

    def test_distances_by_hand(self):
        almanac = Almanac(Calendar(YEARS), [("a", EACH), ("none", EMPTY), ("few", ("on", [4, 9]))])
        every, few, none = ("name", "a"), ("name", "few"), ("name", "none")
        for one, other, wanted in (
                (every, every, (0, 0)), (few, every, (0, 2)), (every, few, (0, None)), (few, few, (0, 0)),
                (none, every, None), (none, none, None), (none, few, None), (every, none, (None, None)),
                (few, none, (None, None)), (("on", [9]), ("on", [4]), (None, None)), (("on", [4]), ("on", [9]), (5, 5)),
                (("on", [4, 10]), ("on", [9]), (5, None)), (("on", [1, 9]), few, (0, 3)),
                (("each", 2, 0), ("each", 3, 0), (0, 2)), (("each", 4, 1), ("each", 6, 0), (1, 5)),
                (("each", 6, 1), ("each", 4, 0), (1, 3)), (("each", 6, 0), ("each", 4, 1), (1, 3)),
                (("each", 1, 10), few, (None, None)), (("each", 1, 0), ("each", 600, 600), (0, 600)),
                (("each", 600, 599), ("each", 599, 0), (0, 598))):
            self.answers(distances, (almanac, one, other), wanted)

    def test_distances_of_long_rounds(self):
        almanac = Almanac(Calendar(YEARS), [])
        for length, more in ((600, 599), (599, 600), (600, 594), (598, 26)):
            book = Book([[1]], [], [("each", length, 7), ("each", more, 3)])
            one, other = ("each", length, 7), ("each", more, 3)
            days = range(7, 7 + length * more, length)
            lengths = [(3 - day) % more for day in days]
            self.answers(distances, (almanac, one, other), (min(lengths), max(lengths)))
            self.assertGreater(book.length, 500)

    def test_never_meeting(self):
        for book, almanac, _ in books(712, 150, 6, 0):
            bits = {name: book.bits(feast)[:book.looked()] for name, feast in book.feasts}
            names = [name for name, _ in book.feasts]
            wanted = [(name, other) for at, name in enumerate(names) for other in names[at + 1:]
                      if not any(here and there for here, there in zip(bits[name], bits[other]))]
            self.answers(never_meeting, (almanac,), sorted(wanted))

    def test_needless(self):
        for book, almanac, _ in books(713, 150, 6, 0):
            told = [(name, repr(book.told(feast))) for name, feast in book.feasts]
            wanted = [name for at, (name, days) in enumerate(told) if days in [other for _, other in told[:at]]]
            self.answers(needless, (almanac,), wanted)

    def test_busiest(self):
        for book, almanac, _ in books(714, 150, 6, 0):
            many = [sum(book.bits(feast)[day] for _, feast in book.feasts) for day in range(book.looked())]
            greatest = max(many)
            self.answers(busiest, (almanac,), (greatest, many.index(greatest)))

    def test_without_feasts(self):
        almanac = Almanac(Calendar(YEARS), [])
        self.answers(never_meeting, (almanac,), [])
        self.answers(needless, (almanac,), [])
        self.answers(busiest, (almanac,), (0, 0))

    def test_feasts_without_days(self):
        almanac = Almanac(Calendar(YEARS), [("c", EMPTY), ("b", EACH), ("a", ("date", 9, 9)),
                                            ("d", ("not", ("each", 1, 0)))])
        self.answers(never_meeting, (almanac,),
                     [("a", "d"), ("b", "a"), ("b", "d"), ("c", "a"), ("c", "b"), ("c", "d")])
        self.answers(needless, (almanac,), ["a", "d"])
        self.answers(busiest, (almanac,), (1, 0))
        almanac = Almanac(Calendar(YEARS), [("c", EMPTY), ("a", ("date", 9, 9))])
        self.answers(busiest, (almanac,), (0, 0))
        self.answers(needless, (almanac,), ["a"])
        self.answers(never_meeting, (almanac,), [("c", "a")])

    def test_pairs_alike(self):
        feasts = [("b", EACH), ("a", EACH), ("d", ("moved", 0, ("name", "b"))), ("c", ("each", 6, 0)),
                  ("e", ("each", 6, 0)), ("f", ("either", ("name", "c"), ("each", 6, 3)))]
        almanac = Almanac(Calendar(YEARS), feasts)
        self.answers(needless, (almanac,), ["a", "d", "e", "f"])
        self.answers(never_meeting, (almanac,), [])
        self.answers(busiest, (almanac,), (6, 0))

    def test_ascending_as_texts(self):
        feasts = [("z", ("on", [1])), ("b", ("on", [2])), ("ab", ("on", [3])), ("a", ("on", [4]))]
        almanac = Almanac(Calendar(YEARS), feasts)
        self.answers(never_meeting, (almanac,),
                     [("ab", "a"), ("b", "a"), ("b", "ab"), ("z", "a"), ("z", "ab"), ("z", "b")])

    def test_busiest_is_the_first_day(self):
        for feasts, wanted in (
                ([("a", ("each", 3, 2)), ("b", ("each", 5, 1))], (2, 11)), ([("a", ("each", 4, 3))], (1, 3)),
                ([("a", ("on", [600])), ("b", ("each", 2, 1)), ("c", ("each", 300, 0))], (2, 600)),
                ([("a", ("on", [0, 7])), ("b", ("on", [7, 9])), ("c", ("each", 10, 9))], (2, 7)),
                ([("a", ("each", 40, 39)), ("b", ("each", 49, 48))], (2, 1959))):
            self.answers(busiest, (Almanac(Calendar([[1]]), feasts),), wanted)


if __name__ == "__main__":
    unittest.main()
