"""The section `ladderdays/desks.py`: long rows of calls, by methods and by orders, against a desk that is made anew
from all calls that stand."""

import copy
import random
import re
import unittest

from ladderdays.calendars import Calendar
from ladderdays.days import every
from ladderdays.desks import Desk
from ladderdays.errors import (DaysError, DoubleName, InvalidLadder, InvalidName, InvalidNumber, InvalidRow, NoDays,
                               NothingToUndo, UnknownName, Unreadable)
from ladderdays.feasts import Almanac, days_of
from ladderdays.queues import done, most_undone
from ladderdays.rosters import exchanged, row_of, workers
from ladderdays.sums import first_over
from ladderdays.terms import due, ladder_of
from tests.plain import PARAMETERS, Case, lists_in, spoil
from tests.reckon import draw_feast, draw_term
from tests.tally import BAD_BOUNDS, BAD_ROWS, draw_bound, draw_row
from tests.wording import almanac_text, feast_text, ladder_text, list_text, near_by, row_text, said, term_text

YEARS = [[2, 3], [2, 1]]
NAMES = ["a", "b", "undo", "who", "market", "eightlet"]
BAD_NAMES = ["", "ninechars", "A", "a1", "a b", " a", "a:"]
CHANGES = ["feast", "term", "row", "hire", "leave", "exchange", "branch", "switch"]
EACH = ("each", 3, 0)
FREE = ([], [0], 30)
NEVER = ([], [0], 0)
WORD, NUMBER = "[a-z]{1,8}", "(?:0|[1-9][0-9]{0,8})"
ORDERS = [rf"(leave|branch|switch|ladder) ({WORD})", rf"(exchange) ({WORD}) ({NUMBER}) ({WORD}) ({NUMBER})",
          rf"(due) ({WORD}) ({NUMBER})", rf"(line) ({WORD}) ({WORD})", rf"(who) ({NUMBER})",
          "(undo|almanac|forks|names)"]


def new_desk():
    return Desk(Almanac(Calendar(YEARS), []))


def plain_order(text):
    """The word of an order and what stands behind it, None if the text is none."""
    for pattern in ORDERS:
        if found := re.fullmatch(pattern, text):
            return [found[1]] + [int(part) if part.isdigit() else part for part in found.groups()[1:]]
    if found := re.fullmatch(rf"(feast|hire|term|row) ({WORD}): (.*)", text):
        thing = said(found[3], "feast" if found[1] == "hire" else found[1])
        return None if thing is None else [found[1], found[2], thing]
    return None


def order_text(word, passed):
    """The order that does, or asks, the same as a call."""
    if word in ("feast", "hire"):
        return f"{word} {passed[0]}: {feast_text(passed[1])}"
    if word == "term":
        return f"term {passed[0]}: {term_text(passed[1])}"
    if word == "row":
        return f"row {passed[0]}: {row_text(passed[1])}"
    return " ".join([word] + [str(part) for part in passed])


class Plain:
    """A desk that keeps the calls that stand, and does all of them again once others do."""

    def __init__(self):
        self.calls, self.known = [], None

    def state(self):
        if self.known is None:
            forks = {"main": {"feasts": [], "named": {}, "roster": []}}
            here = "main"
            for word, passed in self.calls:
                forks, here = self.behind(forks, here, word, copy.deepcopy(passed))
            self.known = forks, here
        return copy.deepcopy(self.known)

    def almanac(self):
        forks, here = self.state()
        return Almanac(Calendar(YEARS), forks[here]["feasts"])

    def here(self):
        forks, here = self.state()
        return forks[here]

    def behind(self, forks, here, word, passed):
        """The forks and the open one behind a call."""
        name, fork = passed[0], copy.deepcopy(forks[here])
        almanac = Almanac(Calendar(YEARS), fork["feasts"])
        if word in ("term", "row", "hire", "branch") and not re.fullmatch(WORD, name):
            raise InvalidName(name)
        taken = {"hire": [one for one, _ in fork["roster"]], "branch": list(forks)}.get(word, [])
        if name in taken:
            raise DoubleName(name)
        known = {"leave": [one for one, _ in fork["roster"]], "switch": list(forks)}.get(word, [name])
        if name not in known:
            raise UnknownName(name)
        if word == "feast":
            fork["feasts"] = Almanac(Calendar(YEARS), fork["feasts"] + [(name, passed[1])]).feasts
        elif word == "term":
            ladder_of(almanac, passed[1])
            fork["named"][name] = ("term", passed[1])
        elif word == "row":
            if not passed[1][1] or min(passed[1][0] + passed[1][1]) < 0:
                raise InvalidRow(passed[1])
            fork["named"][name] = ("row", passed[1])
        elif word == "hire":
            fork["roster"].append((name, days_of(almanac, passed[1])))
        elif word == "leave":
            fork["roster"] = [(one, told) for one, told in fork["roster"] if one != name]
        elif word == "exchange":
            fork["roster"] = exchanged(fork["roster"], *passed)
        elif word == "branch":
            return {**forks, name: fork}, here
        else:
            assert word == "switch"
            return forks, name
        return {**forks, here: fork}, here

    def change(self, word, passed):
        if word == "undo":
            if not self.calls:
                raise NothingToUndo(0)
            self.calls.pop()
        else:
            self.behind(*self.state(), word, copy.deepcopy(passed))
            self.calls.append((word, copy.deepcopy(passed)))
        self.known = None

    def found(self, kind, name):
        if self.here()["named"].get(name, ["none"])[0] != kind:
            raise UnknownName(name)
        return copy.deepcopy(self.here()["named"][name][1])

    def ask(self, word, passed):
        """The answer of a call that asks for something."""
        if word == "due":
            term = self.found("term", passed[0])
            return due(self.almanac(), term, passed[1])
        if word == "ladder":
            return ladder_of(self.almanac(), self.found("term", passed[0]))
        if word == "line":
            rows = [self.found("row", name) for name in passed]
            greatest = most_undone(*rows)
            return done(*rows), greatest and greatest[0]
        if word == "rested":
            if passed[0] in BAD_BOUNDS:
                raise InvalidLadder(passed[0])
            return [name for name, told in self.here()["roster"] if first_over(row_of(told), passed[0]) is None]
        if word == "who":
            return workers(self.here()["roster"], passed[0])
        if word == "almanac":
            return self.here()["feasts"]
        if word == "forks":
            return sorted(self.state()[0])
        assert word == "names"
        return sorted(self.here()["named"])

    def told(self, word, passed):
        """The answer of an order."""
        if word in CHANGES + ["undo"]:
            self.change(word, passed)
            return "done"
        answer = self.ask(word, passed)
        if word == "line":
            return row_text(answer[0]) + " : " + ("none" if answer[1] is None else str(answer[1]))
        if word == "almanac":
            return almanac_text(YEARS, answer)
        return {"due": str, "ladder": ladder_text}.get(word, list_text)(answer)

    def view(self):
        """All that a desk shows."""
        forks, here = self.state()
        feasts, named = forks[here]["feasts"], forks[here]["named"]
        terms = [(name, self.ask("ladder", [name])) for name in sorted(named) if named[name][0] == "term"]
        rows = [name for name in sorted(named) if named[name][0] == "row"]
        return (here, sorted(forks), sorted(named), forks[here]["roster"], feasts, len(self.calls), terms,
                [self.ask("line", [name, other]) for name in rows for other in rows[-1:]])


def attempt(call):
    """What a call answers, or the class and the value of its error."""
    try:
        return "answer", call()
    except DaysError as error:
        return error.__class__.__name__, error.value


class DeskCase(Case):
    def view(self, desk, plain):
        """All that a desk shows, of all terms and rows that are there."""
        named = plain.here()["named"]
        terms = [(name, desk.ladder(name)) for name in sorted(named) if named[name][0] == "term"]
        rows = [name for name in sorted(named) if named[name][0] == "row"]
        self.assertEqual(desk.almanac.calendar.years, YEARS)
        return (desk.fork, desk.forks(), desk.names(), desk.roster, desk.almanac.feasts, len(desk), terms,
                [desk.line(name, other) for name in rows for other in rows[-1:]])

    def alike(self, desk, plain):
        view = self.view(desk, plain)
        self.told(view, plain.view())
        again = self.view(desk, plain)
        self.apart_from(view)
        self.apart_from(again, view)
        spoil(view)
        self.told(again, plain.view())

    def call(self, desk, word, passed, by_name=False):
        """What a method answers, or its error, with what was passed and told changed behind."""
        method, original = getattr(desk, word), copy.deepcopy(passed)
        if by_name:
            names = PARAMETERS[f"Desk.{word}"]
            found = attempt(lambda: method(**dict(reversed(list(zip(names, passed))))))
        else:
            found = attempt(lambda: method(*passed))
        self.told(passed, original, "what was passed")
        self.apart_from(found[1], passed)
        kept = copy.deepcopy(found)
        spoil(passed)
        self.told(found, kept, "what was told")
        spoil(found[1])
        return kept

    def changes(self, desk, plain, word, passed, how):
        """A call that changes something does so on the desk just as on the plain one."""
        if how == "order":
            text = order_text(word, passed)
            wanted = attempt(lambda: plain.told(word, passed))
            self.told(attempt(lambda: desk.order(text)), wanted, text)
        else:
            wanted = attempt(lambda: plain.change(word, copy.deepcopy(passed)))
            self.told(self.call(desk, word, copy.deepcopy(passed), how == "name"), wanted, (word, passed))
        return wanted[0] in ("answer",)

    def asks(self, desk, plain, word, passed, how):
        """A call that asks for something is answered as by the plain one."""
        if how == "order":
            text = order_text(word, passed)
            self.told(attempt(lambda: desk.order(text)), attempt(lambda: plain.told(word, passed)), text)
        elif word not in ("who", "almanac"):
            wanted = attempt(lambda: plain.ask(word, copy.deepcopy(passed)))
            self.told(self.call(desk, word, copy.deepcopy(passed), how == "name"), wanted, (word, passed))


def draw_change(chance, plain):
    """Some call that changes something, at times one that is refused."""
    here = plain.here()
    names = [name for name, _ in here["feasts"]]
    roster = [name for name, _ in here["roster"]]
    word = chance.choice(["feast", "feast", "term", "term", "row", "row", "hire", "hire", "leave", "exchange",
                          "exchange", "branch", "switch", "switch", "undo", "undo"])
    name = chance.choice(NAMES)
    if word in ("feast", "hire"):
        known = names + ([chance.choice(NAMES)] if chance.random() < 0.15 else [])
        feast = draw_feast(chance, known, 1, (1, 2, 3, 4), 3)
        return word, [name, ("each", chance.choice([0, 3]), -1) if chance.random() < 0.1 else feast]
    if word == "term":
        feasts = [("each", 2, 1), ("starts",)] + [("name", known) for known in names[:2]]
        term = draw_term(chance, feasts, 1, 3, 4)
        return word, [name, term + [chance.choice([("days", -1), ("work", 0, EACH), ("to", ("on", [3]))])]
                      if chance.random() < 0.15 else term]
    if word == "row":
        return word, [name, chance.choice([([1], []), ([-1], [1])]) if chance.random() < 0.1 else draw_row(chance, 2, 3)]
    if word == "leave":
        return word, [chance.choice(roster or NAMES) if chance.random() < 0.5 else name]
    if word == "exchange":
        one, other = [chance.choice(roster or NAMES) for _ in range(2)]
        days = [chance.randint(0, 8) for _ in range(2)]
        sets = dict(here["roster"])
        if one in sets and other in sets and chance.random() < 0.7:
            bits = [[day for day in range(12) if giver in workers(here["roster"], day)
                     and taker not in workers(here["roster"], day)] for giver, taker in ((one, other), (other, one))]
            days = [chance.choice(days_given or [0]) for days_given in bits]
        return word, [one, days[0], other, days[1]]
    if word == "undo":
        return word, []
    forks = sorted(plain.state()[0])
    return word, [chance.choice(forks) if chance.random() < 0.5 else name]


def draw_question(chance):
    word = chance.choice(["due", "ladder", "line", "rested", "who", "almanac", "forks", "names"])
    if word == "due":
        return word, [chance.choice(NAMES), chance.randint(0, 20)]
    if word == "ladder":
        return word, [chance.choice(NAMES)]
    if word == "line":
        return word, [chance.choice(NAMES), chance.choice(NAMES)]
    if word == "rested":
        return word, [chance.choice([draw_bound(chance, 4, 5), draw_bound(chance, 4, 5), BAD_BOUNDS[0]])]
    return word, [chance.randint(0, 12)] if word == "who" else []


def tellable(word, passed):
    """Whether an order can say this: names are names, numbers from 0 on, and feasts and terms are such."""
    text = order_text(word, passed) if word != "rested" else ""
    return plain_order(text) is not None


class Calls(DeskCase):
    def test_drawn(self):
        kinds = {}
        for seed in range(60):
            chance = random.Random(1200 + seed)
            desk, plain = new_desk(), Plain()
            for _ in range(40):
                word, passed = draw_change(chance, plain)
                how = chance.choice(["position", "name", "order"])
                if how == "order" and not tellable(word, passed):
                    how = "position"
                good = self.changes(desk, plain, word, passed, how)
                kinds[word, good] = kinds.get((word, good), 0) + 1
                self.assertEqual(len(desk), len(plain.calls))
                for _ in range(2):
                    word, passed = draw_question(chance)
                    how = chance.choice(["position", "name", "order"])
                    if how != "order" or tellable(word, passed):
                        self.asks(desk, plain, word, passed, how)
                if chance.random() < 0.4:
                    self.alike(desk, plain)
            self.alike(desk, plain)
            while plain.calls:
                self.changes(desk, plain, "undo", [], chance.choice(["position", "order"]))
                self.alike(desk, plain)
            self.told(self.call(desk, "undo", []), ("NothingToUndo", 0))
            self.alike(desk, plain)
        for word in CHANGES:
            self.assertGreater(kinds.get((word, True), 0), 15, word)
            self.assertGreater(kinds.get((word, False), 0), 3, word)

    def test_forks_keep_to_themselves(self):
        desk = new_desk()
        for text in ("feast a: (each 2 from 0)", "term t: to a", "row r: - / 1", "hire bob: a", "branch two",
                     "feast b: (each 3 from 0)", "term t: to b", "hire ann: b", "leave bob", "row s: - / 2"):
            self.assertEqual(desk.order(text), "done")
        self.told([desk.fork, desk.forks(), desk.names(), desk.order("almanac"), desk.roster, desk.due("t", 1)],
                  ["main", ["main", "two"], ["r", "s", "t"],
                   "2 3; 2 1 | a: (each 2 from 0) | b: (each 3 from 0)", [("ann", every(3, 0))], 3])
        desk.switch("two")
        self.told([desk.fork, desk.forks(), desk.names(), desk.order("almanac"), desk.roster, desk.due("t", 1)],
                  ["two", ["main", "two"], ["r", "t"], "2 3; 2 1 | a: (each 2 from 0)", [("bob", every(2, 0))], 2])
        desk.branch("three")
        desk.hire("cid", ("name", "a"))
        desk.switch("three")
        self.told(desk.roster, [("bob", every(2, 0))])
        desk.leave("bob")
        desk.switch("main")
        desk.undo()
        desk.undo()
        self.told([desk.fork, desk.roster], ["three", [("bob", every(2, 0))]])
        desk.undo()
        self.told([desk.fork, desk.roster], ["two", [("bob", every(2, 0)), ("cid", every(2, 0))]])
        desk.undo()
        desk.undo()
        self.told([desk.fork, desk.forks(), desk.roster], ["two", ["main", "two"], [("bob", every(2, 0))]])
        desk.undo()
        self.told([desk.fork, desk.roster, len(desk)], ["main", [("ann", every(3, 0))], 10])

    def test_those_who_are_hired_work_as_the_feast_was(self):
        desk = new_desk()
        desk.feast("a", ("each", 2, 0))
        desk.hire("ann", ("name", "a"))
        desk.hire("bob", ("not", ("name", "a")))
        desk.exchange("ann", 0, "bob", 1)
        desk.feast("b", ("both", ("name", "a"), ("each", 4, 0)))
        self.told(desk.roster, [("ann", ([1], 2, 2, [0])), ("bob", ([0], 2, 2, [1]))])
        self.told(desk.rested(([], [0, 1], 1)), ["bob"])
        self.told(desk.rested(FREE), ["ann", "bob"])
        self.told(desk.rested(NEVER), [])

    def test_names_of_terms_and_rows_are_one_lot(self):
        desk = new_desk()
        desk.row("a", ([], [1]))
        desk.term("b", [("days", 2)])
        self.told(desk.line("a", "a"), (([], [1]), 0))
        desk.term("a", [])
        self.told(desk.names(), ["a", "b"])
        self.told(self.call(desk, "line", ["a", "a"]), ("UnknownName", "a"))
        self.told(desk.due("a", 10 ** 31), 10 ** 31)
        desk.row("b", ([5], [2]))
        self.told(self.call(desk, "due", ["b", -1]), ("UnknownName", "b"))
        self.told(self.call(desk, "ladder", ["b"]), ("UnknownName", "b"))
        desk.undo()
        self.told(desk.ladder("b"), ([], [2], 1))
        desk.hire("a", EACH)
        desk.branch("a")
        desk.feast("a", EACH)
        self.told([desk.names(), desk.forks(), desk.roster], [["a", "b"], ["a", "main"], [("a", every(3, 0))]])

    def test_what_changes_nothing_counts(self):
        desk = new_desk()
        for at in range(3):
            desk.switch("main")
            self.assertEqual(len(desk), at + 1)
        desk.row("a", ([], [1]))
        desk.row("a", ([], [1]))
        self.assertEqual(len(desk), 5)
        for text in ("names", "forks", "almanac", "who 3", "line a a"):
            desk.order(text)
        self.assertEqual(len(desk), 5)
        for at in range(5):
            self.told(desk.order("undo"), "done")
        self.told([len(desk), desk.names()], [0, []])
        self.told(attempt(lambda: desk.order("undo")), ("NothingToUndo", 0))
        self.told(len(desk), 0)

    def test_a_new_desk(self):
        almanac = Almanac(Calendar(YEARS), [("a", EACH)])
        for desk in (Desk(almanac), Desk(almanac=almanac)):
            self.assertEqual(desk.almanac, almanac)
            self.told([desk.fork, desk.roster, desk.forks(), desk.names(), len(desk)], ["main", [], ["main"], [], 0])
            self.told([desk.order(text) for text in ("forks", "names", "who 0", "almanac")],
                      ["main", "-", "-", "2 3; 2 1 | a: (each 3 from 0)"])
            self.told(desk.rested(NEVER), [])
        one, other = Desk(almanac), Desk(almanac)
        one.feast("b", EACH)
        self.told([one.almanac.feasts, other.almanac.feasts, almanac.feasts],
                  [[("a", EACH), ("b", EACH)], [("a", EACH)], [("a", EACH)]])
        self.assertFalse(one == other)

    def test_all_return_none(self):
        desk = new_desk()
        for word, passed in (("feast", ["a", EACH]), ("term", ["a", []]), ("row", ["b", ([], [1])]), ("hire", ["a", EACH]),
                             ("hire", ["b", ("moved", 1, EACH)]), ("exchange", ["a", 0, "b", 1]), ("leave", ["a"]),
                             ("branch", ["a"]), ("switch", ["a"]), ("undo", [])):
            self.told(self.call(desk, word, passed), ("answer", None))

    def test_far(self):
        desk = new_desk()
        desk.term("a", [("days", 1), ("to", ("each", 7, 3))])
        self.told(desk.due("a", 10 ** 31), 10 ** 31 + (3 - 10 ** 31) % 7 if (3 - 10 ** 31) % 7 else 10 ** 31 + 7)
        desk.row("b", ([1000], [1]))
        desk.row("c", ([], [1]))
        self.told(desk.line("b", "c"), (([], [1]), 999))
        self.told(desk.order("line b c"), "- / 1 : 999")
        self.told(desk.order("line c b"), "- / 1 : 0")
        desk.row("d", ([], [0]))
        self.told(desk.line("c", "d"), (([], [0]), None))
        self.told(desk.order("line c d"), "- / 0 : none")

    def test_lists_are_new(self):
        desk = new_desk()
        desk.feast("a", ("on", [1, 2]))
        desk.hire("ann", ("name", "a"))
        desk.hire("bob", ("name", "a"))
        desk.row("r", ([1], [2]))
        desk.term("t", [("to", ("each", 3, 1))])
        for _ in range(2):
            found = [desk.roster, desk.almanac.feasts, desk.forks(), desk.names(), desk.ladder("t"), desk.line("r", "r"),
                     desk.rested(FREE)]
            self.told(found, [[("ann", ([1, 2], 3, 1, [])), ("bob", ([1, 2], 3, 1, []))], [("a", ("on", [1, 2]))],
                              ["main"], ["r", "t"], ([], [1, 1, 4], 3), (([1], [2]), 0), ["ann", "bob"]])
            self.apart_from(found)
            for thing in list(lists_in(found)):
                thing.append(7)


class Orders(DeskCase):
    RIGHT = ["feast a: (each 3 from 0)", "feast on: ((each 2 from 1) & market)", "term t: -", "term t: days 1, to market",
             "row r: - / 0", "row r: 1 2 / 3", "row r: -1 / 2", "hire ann: market", "hire ann: (on -)", "leave ann",
             "exchange ann 0 bob 1", "branch b", "switch main", "undo", "due t 4", "ladder t", "line r r", "who 0",
             "who 999999999", "almanac", "forks", "names", "row feast: 7 / 0", "leave undo",
             "term names: earlier [-] [to (starts)]"]
    WRONG = ["", " ", "-", "undo ", " undo", "undo 1", "Undo", "undo:", "forks -", "names a", "almanac a", "who", "who ",
             "who -1", "who 01", "who 1234567890", "who a", "who 1 2", "who  1", "due t", "due t -0", "due t +1",
             "due t 4 4", "due 4 t", "due t 4 ", "ladder", "ladder T", "ladder t u", "ladder ninechars", "line r",
             "line r s t", "line r 4", "line  r", "leave", "leave ", "leave a b", "leave a:", "exchange ann 0 bob",
             "exchange ann bob 0 1", "exchange ann 0 bob 1 2", "exchange ann -1 bob 1", "exchange 0 ann 1 bob",
             "exchange ann 0 bob 01", "branch", "branch B", "branch a1", "switch", "switch a-b", "feast a",
             "feast a (each 3 from 0)", "feast a:(each 3 from 0)", "feast a:  (each 3 from 0)", "feast : market",
             "feast a: ", "feast a: (each 0 from 0)", "feast a: each 3 from 0", "feast a b: market", "feast ninechars: market",
             "feast A: market", "feast a: market ", "Feast a: market", "feast  a: market", "feast a: days 1",
             "term t", "term t: ", "term t:-", "term t: days", "term t: days 1,", "term t: (each 3 from 0)",
             "term t: days -1", "term t: work 0 a", "row r", "row r: ", "row r: 1", "row r: / 1", "row r: 1 /",
             "row r: 1 / -", "row r: - / 01", "row r: - / 1 + 2", "row r: - / 1234567890", "row : - / 1", "hire ann",
             "hire ann:", "hire ann: ", "hire ann: days 1", "hire 1: market", "term t: -: -", "hires ann: market",
             "fork", "len", "rested 0 / 1 + 1", "roster", "order undo", "who 1\\n", "feast a: market: market",
             "undo undo", "names names", "due t 4: 5", "order", "term  t: -", ": ", "feast: a", "row r: - / 1: 2"]

    def test_texts_that_are_none(self):
        for text in self.WRONG:
            self.assertIsNone(plain_order(text), text)
            desk = new_desk()
            for _ in range(2):
                self.told(attempt(lambda: desk.order(text)), ("Unreadable", text))
                self.told(attempt(lambda: desk.order(text=text)), ("Unreadable", text))
            self.told([len(desk), desk.names(), desk.fork], [0, [], "main"])

    def test_texts_that_are_some(self):
        for text in self.RIGHT:
            self.assertIsNotNone(plain_order(text), text)
            for texts in ([text], ["feast market: (each 3 from 0)", "term t: to market", "row r: - / 1",
                                   "hire ann: market", "hire bob: (each 3 from 1)", text]):
                desk, plain = new_desk(), Plain()
                for one in texts:
                    word, *passed = plain_order(one)
                    self.told(attempt(lambda: desk.order(one)), attempt(lambda: plain.told(word, passed)), one)
                self.alike(desk, plain)

    def test_texts_near_them(self):
        chance = random.Random(1301)
        none = some = 0
        for text in self.RIGHT:
            for near in near_by(chance, text, 120):
                desk, told = new_desk(), plain_order(near)
                if told is None:
                    self.told(attempt(lambda: desk.order(near)), ("Unreadable", near))
                    none += 1
                else:
                    plain = Plain()
                    self.told(attempt(lambda: desk.order(near)), attempt(lambda: plain.told(told[0], told[1:])), near)
                    self.assertEqual(len(desk), len(plain.calls))
                    some += 1
        self.assertGreater(min(none, some), 200)

    def test_any_signs(self):
        chance = random.Random(1302)
        signs = [chr(sign) for sign in range(32, 127) if chr(sign) != "%"]
        for _ in range(500):
            text = "".join(chance.choice(signs) for _ in range(chance.randint(0, 30)))
            if chance.random() < 0.5:
                text = chance.choice(self.RIGHT).split(" ")[0] + " " + text
            desk = new_desk()
            if plain_order(text) is None:
                self.told(attempt(lambda: desk.order(text)), ("Unreadable", text))
        for text in ("feast a: " + "(! " * 900, "(" * 3000, "term t: " + "earlier [" * 300, "row r: " + "1 " * 1400,
                     "undo " * 600, "a" * 3000, "branch " + "b" * 2990):
            self.told(attempt(lambda: new_desk().order(text)), ("Unreadable", text))

    def test_long_texts(self):
        desk = new_desk()
        deep = "(! " * 20 + "(each 3 from 0)" + ")" * 20
        self.told(desk.order(f"feast a: {deep}"), "done")
        self.told(desk.order("almanac"), f"2 3; 2 1 | a: {deep}")
        numbers = " ".join(["7"] * 500 + ["6"])
        self.told(desk.order(f"row r: {numbers} / 5 4"), "done")
        self.told(desk.order("line r r"), f"{numbers} / 5 4 : 0")


class Errors(DeskCase):
    def desk(self):
        desk = new_desk()
        for text in ("feast a: (each 2 from 0)", "term t: to a", "row r: - / 1", "hire ann: a", "hire bob: (! a)", "branch b"):
            desk.order(text)
        return desk

    def refused(self, word, passed, error, value):
        """A call is refused, by position, by name and, if it can be told, by an order, and nothing changes."""
        for how in ("position", "name", "order"):
            desk = self.desk()
            before = repr([vars(desk)[name] for name in sorted(vars(desk))])
            told = copy.deepcopy(passed)
            if how != "order":
                found = self.call(desk, word, told, how == "name")
            elif word != "rested" and tellable(word, passed):
                found = attempt(lambda: desk.order(order_text(word, passed)))
            else:
                continue
            self.told(found, (error.__name__, value), (how, word, passed))
            self.assertEqual(repr([vars(desk)[name] for name in sorted(vars(desk))]), before)
            self.told([len(desk), desk.fork, desk.forks(), desk.names(), desk.roster, desk.order("almanac")],
                      [6, "main", ["b", "main"], ["r", "t"], [("ann", every(2, 0)), ("bob", every(2, 1))],
                       "2 3; 2 1 | a: (each 2 from 0)"])

    def test_names(self):
        for bad in BAD_NAMES:
            for thing in (EACH, ("each", 0, 0), ("name", "none")):
                self.refused("feast", [bad, thing], InvalidName, bad)
                self.refused("hire", [bad, thing], InvalidName, bad)
            for term in ([], [("days", -1)], [("to", ("name", "none"))], [("to", ("on", []))]):
                self.refused("term", [bad, term], InvalidName, bad)
            for row in (([], [1]), ([], [])):
                self.refused("row", [bad, row], InvalidName, bad)
            self.refused("branch", [bad], InvalidName, bad)
            self.refused("leave", [bad], UnknownName, bad)
            self.refused("switch", [bad], UnknownName, bad)

    def test_double_names(self):
        for feast in (EACH, ("each", 0, 0), ("name", "none")):
            self.refused("feast", ["a", feast], DoubleName, "a")
            self.refused("hire", ["bob", feast], DoubleName, "bob")
        self.refused("branch", ["main"], DoubleName, "main")
        self.refused("branch", ["b"], DoubleName, "b")

    def test_unknown_names(self):
        self.refused("leave", ["a"], UnknownName, "a")
        self.refused("switch", ["ann"], UnknownName, "ann")
        for name in ("r", "ann", "a", "b", "x"):
            self.refused("ladder", [name], UnknownName, name)
            for day in (0, -1):
                self.refused("due", [name, day], UnknownName, name)
        for name in ("t", "ann", "x", ""):
            self.refused("line", [name, "r"], UnknownName, name)
            self.refused("line", ["r", name], UnknownName, name)
            self.refused("line", [name, "y"], UnknownName, name)

    def test_feasts(self):
        for word in ("feast", "hire"):
            for feast, error, value in ((("each", 0, -1), InvalidNumber, 0), (("each", 1, -1), InvalidNumber, -1),
                                        (("name", "c"), UnknownName, "c"), (("on", [3, 3]), InvalidNumber, 3),
                                        (("nth", 0, ("name", "c"), EACH), InvalidNumber, 0),
                                        (("both", ("name", "a"), ("date", 0, -2)), InvalidNumber, -2),
                                        (("not", ("name", "t")), UnknownName, "t")):
                self.refused(word, ["c", feast], error, value)

    def test_terms(self):
        for term, error, value in (([("days", -1), ("work", 0, EACH)], InvalidNumber, -1),
                                   ([("work", 0, ("name", "c"))], InvalidNumber, 0),
                                   ([("work", 1, ("name", "c")), ("days", -1)], UnknownName, "c"),
                                   ([("to", ("on", [4, 5])), ("days", -3)], InvalidNumber, -3),
                                   ([("to", ("on", [4, 5])), ("days", 3)], NoDays, ([4, 5], 6, 1, [])),
                                   ([("earlier", [("days", -7)], [("days", -8)])], InvalidNumber, -7)):
            self.refused("term", ["c", term], error, value)
            self.refused("term", ["t", term], error, value)

    def test_rows_and_bounds(self):
        for bad in BAD_ROWS:
            self.refused("row", ["c", bad], InvalidRow, bad)
        for bad in BAD_BOUNDS:
            self.refused("rested", [bad], InvalidLadder, bad)
            self.told(attempt(lambda: new_desk().rested(bad)), ("InvalidLadder", bad))

    def test_numbers(self):
        for number in (-1, -10 ** 31):
            self.refused("due", ["t", number], InvalidNumber, number)

    def test_exchanges(self):
        for passed, error, value in ((["x", -1, "ann", -1], UnknownName, "x"), (["ann", -1, "x", -1], UnknownName, "x"),
                                     (["ann", -1, "ann", -1], DoubleName, "ann"), (["ann", -1, "bob", -2], InvalidNumber, -1),
                                     (["ann", 1, "bob", -2], InvalidNumber, -2), (["ann", 1, "bob", 2], InvalidNumber, 1),
                                     (["ann", 2, "bob", 2], InvalidNumber, 2), (["ann", 2, "bob", 4], InvalidNumber, 4),
                                     (["t", 2, "bob", 3], UnknownName, "t")):
            self.refused("exchange", passed, error, value)

    def test_undo_beyond_the_beginning(self):
        desk = self.desk()
        for _ in range(6):
            desk.undo()
        for _ in range(3):
            self.told(attempt(desk.undo), ("NothingToUndo", 0))
            self.told(attempt(lambda: desk.order("undo")), ("NothingToUndo", 0))
        self.told([len(desk), desk.forks(), desk.names(), desk.roster, desk.order("almanac")],
                  [0, ["main"], [], [], "2 3; 2 1"])
        desk.order("branch c")
        self.told([len(desk), desk.forks()], [1, ["c", "main"]])

    def test_unreadable_ahead_of_all_else(self):
        desk = self.desk()
        for text in ("leave Ann", "exchange x -1 y 0", "due x", "line x", "undo now", "branch ninechars"):
            self.told(attempt(lambda: desk.order(text)), (Unreadable.__name__, text))
        self.told(len(desk), 6)


if __name__ == "__main__":
    unittest.main()
