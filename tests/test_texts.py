"""The sections `ladderdays/texts.py` and `ladderdays/readings.py`, against a plain writing and reading."""

import random
import unittest

from ladderdays.calendars import Calendar
from ladderdays.errors import Unreadable
from ladderdays.feasts import Almanac
from ladderdays.readings import read_almanac, read_calendar, read_feast, read_ladder, read_row, read_term
from ladderdays.texts import show_almanac, show_calendar, show_feast, show_ladder, show_row, show_term
from tests.plain import Case, draw_ladder, ladder_again
from tests.wording import (WORDS, almanac_text, calendar_text, draw_text_almanac, draw_text_feast,
                           draw_text_row, draw_text_term, feast_text, ladder_text, near_by, row_text, said, term_text)

READ = {"feast": read_feast, "term": read_term, "calendar": read_calendar, "almanac": read_almanac, "row": read_row,
        "ladder": read_ladder}
EACH = ("each", 3, 0)
A, B = ("name", "a"), ("name", "b")
FEASTS = [
    (("name", "market"), "market"), (EACH, "(each 3 from 0)"), (("each", 1, 999999999), "(each 1 from 999999999)"),
    (("on", []), "(on -)"), (("on", [0]), "(on 0)"), (("on", [2, 30, 999999999]), "(on 2 30 999999999)"),
    (("date", 0, 11), "(date 0 11)"), (("starts",), "(starts)"), (("ends",), "(ends)"), (("both", A, B), "(a & b)"),
    (("either", A, B), "(a + b)"), (("but", A, B), "(a ~ b)"), (("not", A), "(! a)"), (("moved", 5, A), "(a @ 5)"),
    (("moved", -999999999, A), "(a @ -999999999)"), (("moved", 0, A), "(a @ 0)"), (("next", A, B), "(a > b)"),
    (("last", A, B), "(a < b)"), (("nth", 2, A, B), "(2 th a from b)"), (("not", ("not", A)), "(! (! a))"),
    (("nth", 1, ("name", "th"), ("name", "from")), "(1 th th from from)"),
    (("but", ("name", "on"), ("name", "each")), "(on ~ each)"), (("moved", 3, ("name", "date")), "(date @ 3)"),
    (("next", ("name", "date"), ("name", "on")), "(date > on)"), (("moved", -7, ("name", "on")), "(on @ -7)"),
    (("both", ("name", "starts"), ("name", "ends")), "(starts & ends)"), (("not", ("name", "starts")), "(! starts)"),
    (("both", ("starts",), ("name", "starts")), "((starts) & starts)"), (("not", ("on", [])), "(! (on -))"),
    (("nth", 3, ("both", A, EACH), ("moved", 1, ("ends",))), "(3 th (a & (each 3 from 0)) from ((ends) @ 1))")]
TERMS = [
    ([], "-"), ([("days", 0)], "days 0"), ([("months", 12)], "months 12"), ([("years", 999999999)], "years 999999999"),
    ([("to", A)], "to a"), ([("to", ("starts",))], "to (starts)"), ([("work", 1, EACH)], "work 1 (each 3 from 0)"),
    ([("not before", 7)], "not before 7"), ([("earlier", [], [])], "earlier [-] [-]"),
    ([("later", [("days", 1)], [])], "later [days 1] [-]"),
    ([("later", [("earlier", [], [("to", A), ("to", B)])], [("days", 1), ("days", 2)]), ("to", B)],
     "later [earlier [-] [to a, to b]] [days 1, days 2], to b"),
    ([("to", ("name", "to")), ("work", 2, ("name", "work")), ("to", ("name", "not"))], "to to, work 2 work, to not"),
    ([("to", ("on", []))], "to (on -)"), ([("days", 1)] * 3, "days 1, days 1, days 1")]
ROWS = [(([], [0]), "- / 0"), (([5], [1, -2]), "5 / 1 -2"), (([-1, 0], [-999999999]), "-1 0 / -999999999"),
        (([], [1, 1, 1, 1]), "- / 1 1 1 1"), (([3, 3], [3, 3]), "3 3 / 3 3")]
LADDERS = [(([0], [1, 1, 1], 3), "0 / 1 1 1 + 3"), (([], [2], 1), "- / 2 + 1"), (([], [0, 0], 0), "- / 0 0 + 0"),
           (([0, 0, 0], [5, 7], 999999999), "0 0 0 / 5 7 + 999999999"), (([1, 2], [3, 4], 2), "1 2 / 3 4 + 2")]
CALENDARS = [([[1]], "1"), ([[2, 3], [2, 4]], "2 3; 2 4"), ([[12], [1, 1, 1], [999999999]], "12; 1 1 1; 999999999")]
ALMANACS = [([[1]], [], "1"), ([[2, 3], [2, 4]], [("market", EACH), ("fair", ("next", ("date", 0, 0), ("name", "market")))],
                              "2 3; 2 4 | market: (each 3 from 0) | fair: ((date 0 0) > market)"),
            ([[4]], [("each", EACH), ("on", ("name", "each")), ("eightlet", ("not", ("name", "on")))],
             "4 | each: (each 3 from 0) | on: each | eightlet: (! on)")]


def plainly(thing):
    """What was read, as lists and tuples."""
    if isinstance(thing, Calendar):
        return thing.years
    if isinstance(thing, Almanac):
        return thing.calendar.years, thing.feasts
    return thing


class ReadCase(Case):
    def reads(self, kind, text, wanted):
        """A text is read as what it says, by position and by name."""
        self.told(plainly(READ[kind](text)), wanted, text)
        self.told(plainly(READ[kind](text=text)), wanted, text)
        if kind not in ("calendar", "almanac"):
            self.answers(READ[kind], (text,), wanted)

    def shows(self, kind, text):
        """What is read is shown as the same text."""
        show = {"feast": show_feast, "term": show_term, "calendar": show_calendar, "almanac": show_almanac,
                "row": show_row, "ladder": show_ladder}[kind]
        self.answers(show, (READ[kind](text),), text)

    def unreadable(self, kind, *texts):
        for text in texts:
            self.refuses(READ[kind], (text,), Unreadable, text)

    def as_said(self, kind, text):
        """A text is read, or refused, just as the plain reading does."""
        wanted = said(text, kind)
        if wanted is None:
            self.refuses(READ[kind], (text,), Unreadable, text)
            return False
        self.told(plainly(READ[kind](text)), wanted, text)
        return True


class ByHand(ReadCase):
    def test_feasts(self):
        for feast, text in FEASTS:
            self.answers(show_feast, (feast,), text)
            self.reads("feast", text, feast)
            self.assertEqual(feast_text(feast), text)
            self.told(said(text, "feast"), feast, text)

    def test_terms(self):
        for term, text in TERMS + [([("to", feast), ("work", 9, feast)], f"to {text}, work 9 {text}")
                                   for feast, text in FEASTS]:
            self.answers(show_term, (term,), text)
            self.reads("term", text, term)
            self.assertEqual(term_text(term), text)
            self.told(said(text, "term"), term, text)

    def test_rows(self):
        for row, text in ROWS:
            self.answers(show_row, (row,), text)
            self.reads("row", text, row)
            self.told(said(text, "row"), row, text)

    def test_ladders(self):
        for ladder, text in LADDERS:
            self.answers(show_ladder, (ladder,), text)
            self.reads("ladder", text, ladder)
            self.told(said(text, "ladder"), ladder, text)

    def test_calendars(self):
        for years, text in CALENDARS:
            self.answers(show_calendar, (Calendar(years),), text)
            self.reads("calendar", text, years)
            self.assertEqual(read_calendar(text), Calendar(years))
            self.assertIsInstance(read_calendar(text), Calendar)

    def test_almanacs(self):
        for years, feasts, text in ALMANACS:
            almanac = Almanac(Calendar(years), feasts)
            self.answers(show_almanac, (almanac,), text)
            self.reads("almanac", text, (years, feasts))
            self.assertEqual(read_almanac(text), almanac)
            self.assertIsInstance(read_almanac(text), Almanac)

    def test_words_as_names(self):
        for word in WORDS:
            self.reads("feast", word, ("name", word))
            self.reads("term", f"to {word}, work 1 {word}", [("to", ("name", word)), ("work", 1, ("name", word))])
            for other in WORDS:
                feast = ("name", word), ("name", other)
                for text, wanted in ((f"({word} & {other})", ("both",) + feast), (f"({word} > {other})", ("next",) + feast),
                                     (f"(5 th {word} from {other})", ("nth", 5) + feast)):
                    self.reads("feast", text, wanted)
                    self.shows("feast", text)

    def test_each_word_within_each_other(self):
        for feast, text in FEASTS:
            for outer, wanted in ((f"({text} & {text})", ("both", feast, feast)), (f"(a + {text})", ("either", A, feast)),
                                  (f"({text} ~ (on -))", ("but", feast, ("on", []))), (f"(! {text})", ("not", feast)),
                                  (f"({text} @ -3)", ("moved", -3, feast)), (f"({text} > b)", ("next", feast, B)),
                                  (f"({text} < {text})", ("last", feast, feast)),
                                  (f"(7 th {text} from {text})", ("nth", 7, feast, feast))):
                self.reads("feast", outer, wanted)
                self.answers(show_feast, (wanted,), outer)
        for term, text in TERMS:
            for word in ("earlier", "later"):
                outer, wanted = f"{word} [{text}] [days 5, {word} [-] [{text}]]", [
                    (word, term, [("days", 5), (word, [], term)])]
                self.reads("term", outer, wanted)
                self.answers(show_term, (wanted,), outer)


class Drawn(ReadCase):
    def test_shown_and_read_back(self):
        chance = random.Random(901)
        for _ in range(200):
            feast, term = draw_text_feast(chance, chance.randint(0, 5)), draw_text_term(chance, chance.randint(0, 3))
            self.answers(show_feast, (feast,), feast_text(feast))
            self.reads("feast", feast_text(feast), feast)
            self.answers(show_term, (term,), term_text(term))
            self.reads("term", term_text(term), term)
            row, ladder = draw_text_row(chance), ladder_again(draw_ladder(chance), chance.randint(0, 2), 2)
            self.answers(show_row, (row,), row_text(row))
            self.reads("row", row_text(row), row)
            self.answers(show_ladder, (ladder,), ladder_text(ladder))
            self.reads("ladder", ladder_text(ladder), ladder)

    def test_calendars_and_almanacs(self):
        chance = random.Random(902)
        for _ in range(150):
            years, feasts = draw_text_almanac(chance)
            almanac = Almanac(Calendar(years), feasts)
            self.answers(show_calendar, (Calendar(years),), calendar_text(years))
            self.reads("calendar", calendar_text(years), years)
            self.answers(show_almanac, (almanac,), almanac_text(years, feasts))
            self.reads("almanac", almanac_text(years, feasts), (years, feasts))

    def near(self, seed, kind, draw, times, many):
        chance = random.Random(seed)
        right = 0
        for _ in range(times):
            text = draw(chance)
            if len(text) < 400:
                for other in near_by(chance, text, many):
                    right += self.as_said(kind, other)
        self.assertGreater(right, times)

    def test_near_feasts(self):
        self.near(911, "feast", lambda chance: feast_text(draw_text_feast(chance, chance.randint(0, 3))), 150, 30)

    def test_near_terms(self):
        self.near(912, "term", lambda chance: term_text(draw_text_term(chance, chance.randint(0, 2))), 150, 30)

    def test_near_calendars(self):
        self.near(913, "calendar", lambda chance: calendar_text(draw_text_almanac(chance)[0]), 100, 30)

    def test_near_almanacs(self):
        self.near(914, "almanac", lambda chance: almanac_text(*draw_text_almanac(chance)), 150, 30)

    def test_near_rows(self):
        self.near(915, "row", lambda chance: row_text(draw_text_row(chance)), 100, 40)

    def test_near_ladders(self):
        self.near(916, "ladder", lambda chance: ladder_text(draw_ladder(chance)), 100, 40)

    def test_all_one_sign_texts(self):
        signs = [chr(code) for code in range(32, 127) if chr(code) != "%"]
        for kind in READ:
            for text in [""] + signs + [one + other for one in "-a1 (/" for other in signs]:
                self.as_said(kind, text)


class Unreadables(ReadCase):
    def test_feasts(self):
        self.unreadable(
            "feast", "", " ", "-", "()", "( )", "A", "a1", "a b", " a", "a ", "(a)", "((a & b))", "aaaaaaaaa", "3", "a,",
            "(each 0 from 0)", "(each 03 from 0)", "(each 3 from 00)", "(each -1 from 0)", "(each 1 from -1)",
            "(each 3 from -0)", "(each -0 from 3)", "(each 1234567890 from 0)", "(each 1 from 1000000000)",
            "(each 3  from 0)", "( each 3 from 0)", "(each 3 from 0 )", "(each 3 from 0", "each 3 from 0",
            "(each 3 from 0))", "(each 3 from)", "(each from 3)", "(each 3 from 0) ", "(each 3 to 0)", "(each a from b)",
            "(on)", "(on )", "(on  -)", "(on - 3)", "(on 3 -)", "(on 3 3)", "(on 3 2)", "(on 1 5 4)", "(on -1)", "(on -0)",
            "(on 01)", "(on 1,2)", "(on 1, 2)", "(on 1  2)", "(on 1 2 )", "(on a)", "(on 0 1000000000)", "on -", "(on +1)",
            "(date 1)", "(date 1 2 3)", "(date -1 2)", "(date 1 -2)", "(date 00 1)", "(date 1 -0)", "(date a b)", "(date)",
            "(starts )", "(start)", "(starts ends)", "(Ends)", "(ends", "ends)", "((starts))", "(a & )", "( & a)", "(a&b)",
            "(a & b & a)", "(a & b c)", "(a  & b)", "(a && b)", "(a | b)", "(a , b)", "(a - b)", "(a * b)", "(& a b)",
            "(!a)", "(! a b)", "(! )", "(!)", "! a", "(a !)", "(! ! a)", "(a @ b)", "(a @ 01)", "(a @ -0)", "(a @ -01)",
            "(a @ --1)", "(a @ +1)", "(a @ 1000000000)", "(a @ -1000000000)", "(a @ - 1)", "(a @)", "(@ a 1)", "(1 @ a)",
            "(a @ 1 1)", "(a @ 1.5)", "(a @ 1) @ 1", "(0 th a from b)", "(-1 th a from b)", "(01 th a from b)",
            "(1 th a b)", "(1 th a of b)", "(1th a from b)", "(1 th from a)", "(th a from b)", "(1 th a from b from a)",
            "(1000000000 th a from b)", "([a] & b)", "[a]", "(a & [days 1])", "[-]", "(! [-])", "(a & b], (a & b)", "(a] & b)",
            "(a & bbbbbbbbb)", "(a & B)", "(a & b1)", "a(b & a)", "(a(b & a) & b)", "((b & a)a & b)", "((b & a)(a & b))",
            "(name a)", "(a & (b)", "(a & b))(", ")", "(", "[", "]", ")a(", "((", "(" * 3000, ")" * 3000, "(! " * 1000,
            "([" * 1500, "(! " * 1000 + "a" + ")" * 999, "a" * 3000, "(on " + "1 " * 1400 + "2)")

    def test_terms(self):
        self.unreadable(
            "term", "", " ", "--", "- ", " -", "-, -", "days 1, -", "-, days 1", "days", "days ", "days  1", "days -1",
            "days -0", "days 01", "days 1000000000", "days a", "days 1,", "days 1, ", ", days 1", "days 1,days 2",
            "days 1 , days 2", "days 1,  days 2", "days 1; days 2", "days 1 days 2", "days 1, days", "day 1", "Days 1",
            "months -2", "months 00", "months", "years 1 2", "years -1", "weeks 1", "to", "to ", "to a b", "to (a)",
            "to (each 0 from 1)", "to [a]", "to 1", "to aaaaaaaaa", "to a,to b", "work 0 a", "work -1 a", "work a",
            "work 1", "work 1 ", "work 01 a", "work 1 a b", "work a 1", "work 1 (on 2 1)", "work 1000000000 a",
            "not before", "not before -1", "not before 01", "not 5", "before 5", "notbefore 5", "not  before 5",
            "not before 5 6", "not after 5", "earlier", "earlier [-]", "earlier [-] [-] [-]", "earlier [] [-]",
            "earlier [-] []", "earlier - -", "earlier [-][-]", "earlier[-] [-]", "earlier [- ] [-]", "earlier [ -] [-]",
            "earlier [-], [-]", "earlier (-) (-)", "earlier [days 1] [days 2", "earlier [days 1] days 2]",
            "earlier [days 1] [days -2]", "later [days 1] [to]", "later [to a] [to (a]", "later [to (a & b] [-])",
            "later [to (a & b)] -", "latest [-] [-]", "later [-] [-],", "[-]", "[days 1]", "(days 1)", "a", "(starts)",
            "earlier [" * 300, "later [-] [" * 270, "[" * 3000, "earlier [days 1,] [-]", "earlier [a] [b]",
            "earlier a [b]", "earlier a [-]", "earlier [-] a", "later (starts) [-]", "later [-] (starts)", "later - [-]",
            "later [-] -", "to to to", "days 1, , days 2", ",", ", ", "to (starts),", "to a,b")

    def test_calendars(self):
        self.unreadable(
            "calendar", "", " ", "-", "0", "-1", "01", "1 0", "1  2", " 1", "1 ", "1;2", "1 ; 2", "1;  2", "1; ", "; 1",
            "1; 0", "1; ; 2", "1;", "a", "1 a", "1,2", "1000000000", "1; -1", "-0", "1 -0", "+1", "1.", "1; 2;", "1 | a: a",
            "1; -", "1\\2")

    def test_almanacs(self):
        self.unreadable(
            "almanac", "", "0", "-", " | ", "1 | ", "1 |", "1 | a", "1 | a:", "1 | a: ", "1 | a:(starts)",
            "1 | a : (starts)", "1 |a: (starts)", "1| a: (starts)", "1  | a: (starts)", "1 | a: (starts) |", "1 | A: (starts)",
            "1 | aaaaaaaaa: (starts)", "1 | : (starts)", "1 | a1: (starts)", "1 | a: a", "1 | a: b | b: (starts)",
            "1 | a: (starts) | a: (ends)", "1 | a: (starts) | b: (! c)", "1 | a: (! a)", "1 | a: (each 0 from 0)",
            "1 | a: (starts) | b: (starts) | a: b", "a: (starts)", "1; | a: (starts)", " | a: (starts)",
            "1 | a: (starts) || b: (ends)", "1 | a: (starts) | | b: (ends)", "1 | a: (starts), b: (ends)",
            "1 | a: (starts): (ends)", "1 | a: b: (ends)", "1 | a: (each 1 from 0) | b: (a & (a + (3 th c from a)))",
            "1 a: (starts)", "1 | a b: (starts)", "1 | a: (on 2 1)", "1 | a: [-]", "1 | a: days 1",
            "1 | -: (starts)", "1 | a:  (starts)", "1 | a: (starts) ")

    def test_rows(self):
        self.unreadable(
            "row", "", "-", " / ", "/", "- / -", "1 / -", "- / ", " / 1", "1 /", "1 / ", "-/1", "- /1", "-/ 1", "1 / 2 / 3",
            "- / 1 / -", "01 / 1", "1 / 01", "-0 / 1", "1 / -0", "-01 / 1", "1 / -01", "1234567890 / 1", "1 / -1234567890",
            "1  2 / 1", "1 / 1  2", " - / 1", "- / 1 ", "-  / 1", "-- / 1", "1 - / 1", "- 1 / 1", "- / - 1", "- / 1 -",
            "a / 1", "- / a", "- / +1", "+1 / 1", "- / 1,2", "- / 1.0", "- / 1 + 0", "- | 1", "-1", "1", "1 2 3", "- / --1",
            "- / 1-", "- / 1-1", "[] / [1]")

    def test_ladders(self):
        self.unreadable(
            "ladder", "", "-", "- / 1", "- / - + 1", "- / 1 + ", "- / 1 +", "- / 1+1", "- / 1 +1", "- / 1+ 1", "- + 1",
            "- / 1 + -1", "- / 1 + -0", "- / 1 + 01", "- / 1 + 1000000000", "- / 1 + 1 + 1", "- / 1 + a", "- / 1 + -",
            "-1 / 1 + 1", "- / -1 + 5", "- / -0 + 1", "2 / 1 + 1", "2 1 / 3 + 1", "- / 2 1 + 5", "- / 0 2 + 1", "0 / 0 5 + 4",
            "- / 1 2 + 0", "1 / 0 1 + 1", "01 / 1 + 1", "- / 01 + 1", "- / 1 / 1 + 1", "- / 1  + 1", "- / 1 +  1",
            " - / 1 + 1", "- / 1 + 1 ", "-  / 1 + 1", "- / 1 + 1 2", "- / 1 2 3", "1 + 1", " / 1 + 1", "- /  + 1",
            "- / 1234567890 + 1", "- / + 1 1")

    def test_texts_of_one_kind_are_none_of_the_others(self):
        texts = {"feast": "(starts)", "term": "days 1", "almanac": "1 | a: (starts)", "row": "- / 1", "ladder": "- / 1 + 1",
                 "calendar": "1; 2"}
        for kind in READ:
            for other, text in texts.items():
                if kind != other and (kind, other) != ("almanac", "calendar"):
                    self.unreadable(kind, text)


class Great(ReadCase):
    def test_twenty_deep(self):
        feast, text = ("each", 999999999, 999999999), "(each 999999999 from 999999999)"
        for deep in range(19):
            feast, text = [(("not", feast), f"(! {text})"), (("moved", -deep, feast), f"({text} @ {-deep})"),
                           (("both", feast, A), f"({text} & a)"), (("nth", 1, A, feast), f"(1 th a from {text})")][deep % 4]
            self.reads("feast", text, feast)
            self.answers(show_feast, (feast,), text)
        term, told = [("to", feast), ("work", 999999999, feast)], f"to {text}, work 999999999 {text}"
        for deep in range(19):
            term, told = ([("earlier", term, [])], f"earlier [{told}] [-]") if deep % 2 else (
                [("days", deep), ("later", [("to", A)], term)], f"days {deep}, later [to a] [{told}]")
            self.reads("term", told, term)
            self.answers(show_term, (term,), told)
        self.reads("almanac", f"1 | a: (starts) | b: {text}", ([[1]], [("a", ("starts",)), ("b", feast)]))

    def test_long_texts(self):
        days = list(range(700, 1300))
        text = "(on " + " ".join(str(day) for day in days) + ")"
        self.assertGreater(len(text), 2500)
        self.reads("feast", text, ("on", days))
        self.shows("feast", text)
        steps = [("days", number) for number in range(330)]
        self.reads("term", term_text(steps), steps)
        self.shows("term", term_text(steps))
        years = [[number, 999999999] for number in range(1, 200)]
        self.reads("calendar", calendar_text(years), years)
        self.shows("calendar", calendar_text(years))
        for row in (([0] * 600, [7] * 600), ([], [-5] * 900)):
            self.reads("row", row_text(row), row)
            self.shows("row", row_text(row))
        ladder = (list(range(300)), list(range(300, 700)), 999999999)
        self.reads("ladder", ladder_text(ladder), ladder)
        self.shows("ladder", ladder_text(ladder))

    def test_600_places(self):
        ladder = ([7] * 600, [7 + place // 2 for place in range(600)], 999)
        self.reads("ladder", ladder_text(ladder), ladder)
        self.answers(show_ladder, (ladder,), ladder_text(ladder))

    def test_many_feasts(self):
        names = [a + b for a in "abcdefgh" for b in "abcdefgh"]
        feasts = [(name, ("name", names[at - 1]) if at else ("starts",)) for at, name in enumerate(names)]
        self.reads("almanac", almanac_text([[1]], feasts), ([[1]], feasts))
        self.shows("almanac", almanac_text([[1]], feasts))


class AsWritten(ReadCase):
    def test_in_any_way(self):
        for text in ("1 1 1 / 1 1", "- / 0 0 0", "0 1 0 1 / 0 1"):
            self.shows("row", text)
        for text in ("0 1 2 / 3 4 5 + 3", "- / 0 1 2 3 + 4", "5 5 / 5 5 + 0", "0 3 / 6 9 + 6"):
            self.shows("ladder", text)


if __name__ == "__main__":
    unittest.main()
