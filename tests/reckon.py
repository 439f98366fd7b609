"""A plain reckoning of calendars, feasts and terms: a going through the days one by one.

Nothing here uses the program, so that what it says and what the program says are two things.
"""

from math import lcm

from tests.plain import ladder_from, set_from

NAMES = ["a", "bb", "ccc", "market", "fair", "fast", "eightlet", "z"]


# Calendars

def dates_upto(years, end):
    """The dates of all days less than `end`, in their order."""
    dates, year = [], 0
    while len(dates) < end:
        for month, size in enumerate(years[year % len(years)]):
            dates.extend((year, month, place) for place in range(size))
        year += 1
    return dates[:end]


def length_of(years):
    return sum(sum(sizes) for sizes in years)


def months_upto(years, many):
    """The lists of the days of so many first months."""
    months, day, year = [], 0, 0
    while len(months) < many:
        for size in years[year % len(years)]:
            months.append(list(range(day, day + size)))
            day += size
        year += 1
    return months[:many]


def years_upto(years, many):
    """The lists of months, each a list of its days, of so many first years."""
    found, day = [], 0
    for year in range(many):
        found.append([])
        for size in years[year % len(years)]:
            found[-1].append(list(range(day, day + size)))
            day += size
    return found


def day_months_on(years, day, many):
    """The day so many months later."""
    at, place = 0, day
    months = iter(months_upto(years, day + many + 2))
    for month in months:
        if day in month:
            place = month.index(day)
            break
        at += 1
    there = months_upto(years, at + many + 1)[at + many]
    return there[place] if place < len(there) else there[-1]


def day_years_on(years, day, many):
    """The day so many years later."""
    year, month, place = dates_upto(years, day + 1)[day]
    there = years_upto(years, year + many + 1)[year + many]
    if month >= len(there):
        return there[-1][-1]
    return there[month][place] if place < len(there[month]) else there[month][-1]


def draw_years(chance, most_years=3, most_months=3, most_days=4):
    return [[chance.randint(1, most_days) for _ in range(chance.randint(1, most_months))]
            for _ in range(chance.randint(1, most_years))]


# Feasts

class Book:
    """A calendar and feasts with names, whose days are gone through one by one up to an end."""

    def __init__(self, years, feasts, more=()):
        """`more` are feasts that are asked, too, and the reckoning goes as far as they need."""
        self.years, self.feasts = years, feasts
        self.named = dict(feasts)
        everything = [feast for _, feast in feasts] + list(more)
        self.length = lcm(length_of(years), *[number for feast in everything for number in lengths_in(feast)])
        self.first = max([self.reach(feast) for feast in everything], default=0)
        # What goes wrong at the end of the reckoning stays behind the days that are looked at.
        self.end = 3 * self.first + 12 * self.length + 50
        self.seen = {}

    def reach(self, feast):
        """A day from which on the days of a feast come over and over."""
        word, parts = feast[0], [self.reach(part) for part in feast[1:] if isinstance(part, tuple)]
        if word == "each":
            return feast[2]
        if word == "on":
            return max(feast[1], default=-1) + 1
        if word == "name":
            return self.reach(self.named[feast[1]])
        if word == "moved":
            return parts[0] + abs(feast[1])
        if word == "next":
            return max(parts) + self.length
        if word == "nth":
            return max(parts) + self.length * (feast[1] + 1)
        return max(parts, default=0)

    def bits(self, feast):
        """For each day less than the end whether it is one of a feast."""
        key = repr(feast)
        if key not in self.seen:
            self.seen[key] = self.reckon(feast)
        return self.seen[key]

    def reckon(self, feast):
        word, days = feast[0], range(self.end)
        if word == "each":
            return [day >= feast[2] and (day - feast[2]) % feast[1] == 0 for day in days]
        if word == "on":
            return [day in feast[1] for day in days]
        if word == "date":
            return [date[1:] == (feast[1], feast[2]) for date in dates_upto(self.years, self.end)]
        if word == "starts":
            return [date[2] == 0 for date in dates_upto(self.years, self.end)]
        if word == "ends":
            dates = dates_upto(self.years, self.end + 1)
            return [dates[day + 1][2] == 0 for day in days]
        if word == "name":
            return self.bits(self.named[feast[1]])
        if word == "not":
            return [not bit for bit in self.bits(feast[1])]
        if word == "moved":
            one = self.bits(feast[2])
            return [0 <= day - feast[1] < self.end and one[day - feast[1]] for day in days]
        one, other = self.bits(feast[-2]), self.bits(feast[-1])
        if word == "both":
            return [here and there for here, there in zip(one, other)]
        if word == "either":
            return [here or there for here, there in zip(one, other)]
        if word == "but":
            return [here and not there for here, there in zip(one, other)]
        return self.reckon_way(word, feast, one, other)

    def reckon_way(self, word, feast, one, other):
        found = [False] * self.end
        if word == "next":
            for day in range(self.end):
                if one[day]:
                    while day < self.end and not other[day]:
                        day += 1
                    if day < self.end:
                        found[day] = True
        elif word == "last":
            for day in range(self.end):
                if one[day]:
                    while day >= 0 and not other[day]:
                        day -= 1
                    if day >= 0:
                        found[day] = True
        else:
            assert word == "nth"
            for day in range(self.end):
                if other[day]:
                    many = 0
                    while day < self.end:
                        many += one[day]
                        if many == feast[1]:
                            found[day] = True
                            break
                        day += 1
                        if day < self.end and other[day]:
                            break
        return found

    def told(self, feast):
        """The set of the days of a feast in its least way."""
        return set_from(self.bits(feast), self.first, self.length)

    def looked(self):
        """How many days are looked at where all days of a round, and what is ahead of it, are wanted."""
        return self.first + 2 * self.length

    # Terms

    def go(self, term, day):
        """What a term makes of a day."""
        for step in term:
            day = self.step(step, day)
        return day

    def step(self, step, day):
        word = step[0]
        if word == "days":
            return day + step[1]
        if word == "months":
            return day_months_on(self.years, day, step[1])
        if word == "years":
            return day_years_on(self.years, day, step[1])
        if word == "not before":
            return max(day, step[1])
        if word == "earlier":
            return min(self.go(step[1], day), self.go(step[2], day))
        if word == "later":
            return max(self.go(step[1], day), self.go(step[2], day))
        bits = self.bits(step[-1])
        if word == "to":
            while not self.bit(bits, day):
                day += 1
            return day
        assert word == "work"
        many = 0
        while many < step[1]:
            day += 1
            many += self.bit(bits, day)
        return day

    def bit(self, bits, day):
        """Whether a feast without an end has a day, near or behind what was gone through."""
        if day < self.looked():
            return bits[day]
        return bits[self.first + (day - self.first) % self.length]

    def start(self, term):
        """A day from which on a term comes over and over."""
        found = self.first
        for step in term:
            if step[0] == "not before":
                found = max(found, step[1])
            if step[0] in ("earlier", "later"):
                found = max(found, self.start(step[1]), self.start(step[2]))
        return found

    def made(self, term):
        """What a term makes of days, as many as settle all."""
        return [self.go(term, day) for day in range(self.start(term) + 2 * self.length)]

    def ladder(self, term):
        """The ladder of a term in its least way."""
        return ladder_from(self.made(term), self.start(term), self.length)


def lengths_in(feast):
    """All lengths of "each" in a feast."""
    if feast[0] == "each":
        return [feast[1]]
    return [number for part in feast[1:] if isinstance(part, tuple) for number in lengths_in(part)]


def feasts_in(term):
    """All feasts that stand in a term, in their order."""
    found = []
    for step in term:
        if step[0] in ("earlier", "later"):
            found.extend(feasts_in(step[1]) + feasts_in(step[2]))
        elif step[0] in ("to", "work"):
            found.append(step[-1])
    return found


def draw_leaf(chance, names, lengths, far):
    word = chance.choice(["each", "each", "on", "date", "starts", "ends", "name", "name"])
    if word == "each" or (word == "name" and not names):
        return ("each", chance.choice(lengths), chance.randint(0, far))
    if word == "on":
        return ("on", sorted(chance.sample(range(far + 6), chance.randint(0, 4))))
    if word == "date":
        return ("date", chance.randint(0, 2), chance.randint(0, 3))
    if word == "name":
        return ("name", chance.choice(names))
    return (word,)


def draw_feast(chance, names=(), deep=2, lengths=(1, 2, 3, 4, 6), far=6):
    """Some feast, so deep at most."""
    if deep == 0 or chance.random() < 0.2:
        return draw_leaf(chance, names, lengths, far)
    word = chance.choice(["both", "either", "but", "not", "moved", "next", "last", "nth"])

    def part():
        return draw_feast(chance, names, deep - 1, lengths, far)

    if word == "not":
        return (word, part())
    if word == "moved":
        return (word, chance.randint(-far, far), part())
    if word == "nth":
        return (word, chance.randint(1, 3), part(), part())
    return (word, part(), part())


def draw_feasts(chance, many, deep=1, **limits):
    """Some feasts with names, each of which may name those ahead of it."""
    names = chance.sample(NAMES, many)
    return [(name, draw_feast(chance, names[:at], deep, **limits)) for at, name in enumerate(names)]


def endless(book, feast):
    """Whether a feast has days without end."""
    return any(book.bits(feast)[book.first:book.looked()])


def draw_term(chance, feasts, deep=1, most=4, far=6):
    """Some term that goes to some of the feasts."""
    term = []
    for _ in range(chance.randint(0, most)):
        word = chance.choice(["days", "months", "years", "to", "to", "work", "work", "not before", "earlier", "later"])
        if word in ("earlier", "later"):
            if deep:
                term.append((word, draw_term(chance, feasts, deep - 1, 2, far),
                             draw_term(chance, feasts, deep - 1, 2, far)))
        elif word == "to":
            term.append((word, chance.choice(feasts)))
        elif word == "work":
            term.append((word, chance.randint(1, 4), chance.choice(feasts)))
        else:
            term.append((word, chance.randint(0, far if word == "not before" else 3)))
    return term
