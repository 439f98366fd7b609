"""A planner's desk: an almanac, named terms and rows, and a roster, in forks, with a way back."""

from ladderdays.errors import DoubleName, InvalidName, NothingToUndo, UnknownName
from ladderdays.feasts import Almanac, days_of, is_name
from ladderdays.ladders import value
from ladderdays.queues import done, most_undone
from ladderdays.readings import feast_in, name_in, number_in, readable, row_in, term_in, whole
from ladderdays.rosters import exchanged, keeps, workers
from ladderdays.rounds import copied
from ladderdays.sums import check_amounts, check_bounds
from ladderdays.terms import ladder_of
from ladderdays.texts import show_almanac, show_ladder, show_row, spelled

# What stands behind the word of an order, for each order but those with a colon.
WORDS = {"leave": ("name",), "exchange": ("name", "number", "name", "number"), "branch": ("name",),
         "switch": ("name",), "undo": (), "due": ("name", "number"), "ladder": ("name",), "line": ("name", "name"),
         "who": ("number",), "almanac": (), "forks": (), "names": ()}


def check_name(name, taken):
    """Raise InvalidName for a text that is no name, or else DoubleName for one that is taken."""
    if not is_name(name):
        raise InvalidName(name)
    if name in taken:
        raise DoubleName(name)


def check_known(name, known):
    """Raise UnknownName for a name that is not known."""
    if name not in known:
        raise UnknownName(name)


def body_in(word, text):
    """Return what stands behind the colon of an order, None if nothing does."""
    if word == "term":
        return term_in(text)
    if word == "row":
        return row_in(text)
    return feast_in(text) if word in ("feast", "hire") else None


def order_in(text):
    """Return the list of the word of an order and what stands behind it; None stands in it if the text is none."""
    first, *rest = text.split(" ")
    if first in WORDS and len(rest) == len(WORDS[first]):
        return [first] + [name_in(word) if kind == "name" else number_in(word, 0)
                          for word, kind in zip(rest, WORDS[first])]
    head, _, body = text.partition(": ")
    first, _, name = head.partition(" ")
    return [first, name_in(name), body_in(first, body)]


class Desk:
    """A desk, on which forks of an almanac, named terms and rows, and a roster are worked on."""

    def __init__(self, almanac):
        # A fork is never changed: another one takes its place, so that those of before can be kept as they are.
        self._forks = {"main": (almanac, {}, [])}
        self._here = "main"
        self._past = []

    def __len__(self):
        return len(self._past)

    @property
    def almanac(self):
        """The almanac of the open fork."""
        return self._forks[self._here][0]

    @property
    def fork(self):
        """The name of the open fork."""
        return self._here

    @property
    def roster(self):
        """The roster of the open fork."""
        return copied(self._forks[self._here][2])

    def forks(self):
        """Return the ascending list of the names of the forks."""
        return sorted(list(self._forks))

    def names(self):
        """Return the ascending list of the names of the terms and rows."""
        return sorted(list(self._named()))

    def feast(self, name, feast):
        """Put a feast more at the end of the almanac."""
        feasts = self.almanac.feasts + [(name, feast)]
        self._change(Almanac(self.almanac.calendar, feasts), self._named(), self.roster)

    def term(self, name, term):
        """Put a named term, in the place of an elder term or row of this name."""
        check_name(name, [])
        self._put(name, ("term", ladder_of(self.almanac, term)))

    def row(self, name, row):
        """Put a named row, in the place of an elder term or row of this name."""
        check_name(name, [])
        check_amounts([row])
        self._put(name, ("row", copied(row)))

    def hire(self, name, feast):
        """Put a name at the end of the roster, who works on the days of a feast as they are now."""
        check_name(name, dict(self.roster))
        told = days_of(self.almanac, feast)
        self._change(self.almanac, self._named(), self.roster + [(name, told)])

    def leave(self, name):
        """Take a name out of the roster."""
        check_known(name, dict(self.roster))
        kept = [(listed, told) for listed, told in self.roster if listed != name]
        self._change(self.almanac, self._named(), kept)

    def exchange(self, name, day, other, later):
        """Let the other one work on a day in the place of the one, and the one on another day in that of the other
        one."""
        self._change(self.almanac, self._named(), exchanged(self.roster, name, day, other, later))

    def branch(self, name):
        """Make a new fork like the open one, which stays open."""
        check_name(name, self._forks)
        forks = dict(self._forks)
        forks[name] = forks[self._here]
        self._go(forks, self._here)

    def switch(self, name):
        """Open a fork."""
        check_known(name, self._forks)
        self._go(self._forks, name)

    def undo(self):
        """Take back the last change that stands, of any fork."""
        if not self._past:
            raise NothingToUndo(0)
        self._forks, self._here = self._past.pop()

    def due(self, name, day):
        """Return what a named term makes of a day."""
        return value(self._found("term", name), day)

    def ladder(self, name):
        """Return the ladder of a named term."""
        return copied(self._found("term", name))

    def line(self, name, other):
        """Return the tuple of the row of what is done and the greatest number undone, None if there is none, of things
        that come by the one row at an office with the other one."""
        arrivals, office = self._found("row", name), self._found("row", other)
        greatest = most_undone(arrivals, office)
        return done(arrivals, office), None if greatest is None else greatest[0]

    def rested(self, above):
        """Return the list of the names of the roster, in its order, who keep a bound from above."""
        check_bounds([above])
        return [name for name, told in self.roster if keeps(told, above)]

    def order(self, text):
        """Do what a text says, and return a text."""
        word, *passed = readable(text, whole(order_in(text)))
        answer = self._ask(word, passed)
        if answer is None:
            self._do(word, passed)
        return "done" if answer is None else answer

    def _ask(self, word, passed):
        """Return the answer of an order that asks for something, None if it asks for nothing."""
        if word == "due":
            return str(self.due(*passed))
        if word == "ladder":
            return show_ladder(self.ladder(*passed))
        if word == "line":
            row, number = self.line(*passed)
            return f"{show_row(row)} : {'none' if number is None else number}"
        if word == "who":
            return spelled(workers(self.roster, *passed))
        if word == "almanac":
            return show_almanac(self.almanac)
        if word == "forks":
            return spelled(self.forks())
        if word == "names":
            return spelled(self.names())
        return None

    def _do(self, word, passed):
        """Do what an order that asks for nothing says."""
        if word == "feast":
            self.feast(*passed)
        elif word == "term":
            self.term(*passed)
        elif word == "row":
            self.row(*passed)
        elif word == "hire":
            self.hire(*passed)
        elif word == "leave":
            self.leave(*passed)
        elif word == "exchange":
            self.exchange(*passed)
        elif word == "branch":
            self.branch(*passed)
        elif word == "switch":
            self.switch(*passed)
        else:
            self.undo()

    def _named(self):
        """Return the terms, by their ladders, and rows of the open fork by their names."""
        return self._forks[self._here][1]

    def _found(self, kind, name):
        """Return the ladder of a named term, or a named row, of the open fork."""
        if self._named().get(name, ("none", None))[0] != kind:
            raise UnknownName(name)
        return self._named()[name][1]

    def _put(self, name, thing):
        """Put a named term or row into the open fork."""
        named = dict(self._named())
        named[name] = thing
        self._change(self.almanac, named, self.roster)

    def _change(self, almanac, named, roster):
        """Put another fork in the place of the open one."""
        forks = dict(self._forks)
        forks[self._here] = (almanac, named, roster)
        self._go(forks, self._here)

    def _go(self, forks, here):
        """Go over to other forks and another open one, and keep those of before for the way back."""
        self._past.append((self._forks, self._here))
        self._forks, self._here = forks, here
