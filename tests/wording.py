"""A plain writing and reading of texts, and drawn things and texts near those of things.

Nothing here uses the program, so that what it says and what the program says are two things.
"""

import re

NUMBER = r"(0|[1-9][0-9]{0,8})(?![0-9])"
WHOLE = r"(0|-?[1-9][0-9]{0,8})(?![0-9])"
NAME = r"([a-z]{1,8})(?![a-z])"
MARKS = {"both": "&", "either": "+", "but": "~", "next": ">", "last": "<"}
WORDS = ["each", "from", "on", "date", "starts", "ends", "th", "to", "days", "months", "years", "work", "not",
         "before", "earlier", "later", "a", "z", "market", "eightlet", "name", "undo"]
SIGNS = "()[]-+/&~!@<>,;:| 0123456789aftz.A_\\'\"#{}"


# Writing

def list_text(things):
    return "-" if not things else " ".join(f"{thing}" for thing in things)


def feast_text(feast):
    word, *rest = feast
    if word == "name":
        return rest[0]
    texts = [feast_text(part) if isinstance(part, tuple) else part for part in rest]
    if word == "each":
        body = "each {} from {}".format(*texts)
    elif word == "on":
        body = "on " + list_text(rest[0])
    elif word == "date":
        body = "date {} {}".format(*texts)
    elif word == "not":
        body = "! {}".format(*texts)
    elif word == "moved":
        body = "{1} @ {0}".format(*texts)
    elif word == "nth":
        body = "{} th {} from {}".format(*texts)
    elif word in MARKS:
        body = "{} {} {}".format(texts[0], MARKS[word], texts[1])
    else:
        assert word in ("starts", "ends") and not rest
        body = word
    return "(" + body + ")"


def term_text(term):
    texts = []
    for word, *rest in term:
        if word in ("earlier", "later"):
            texts.append(f"{word} [{term_text(rest[0])}] [{term_text(rest[1])}]")
        elif word == "to":
            texts.append(f"to {feast_text(rest[0])}")
        elif word == "work":
            texts.append(f"work {rest[0]} {feast_text(rest[1])}")
        else:
            texts.append(f"{word} {rest[0]}")
    return ", ".join(texts) or "-"


def calendar_text(years):
    return "; ".join(list_text(year) for year in years)


def almanac_text(years, feasts):
    return calendar_text(years) + "".join(f" | {name}: {feast_text(feast)}" for name, feast in feasts)


def row_text(row):
    return list_text(row[0]) + " / " + list_text(row[1])


def ladder_text(ladder):
    return row_text(ladder[:2]) + " + " + str(ladder[2])


# Reading

class Wrong(Exception):
    """A text says nothing."""


class Reader:
    """What is left of a text, from the left on."""

    def __init__(self, text):
        self.text, self.at = text, 0

    def take(self, pattern):
        """What stands here by a pattern, None if it does not."""
        found = re.compile(pattern).match(self.text, self.at)
        if found:
            self.at = found.end()
        return found

    def want(self, pattern):
        found = self.take(pattern)
        if not found:
            raise Wrong(self.text)
        return found

    def end(self, thing):
        if self.at < len(self.text):
            raise Wrong(self.text)
        return thing

    def feast(self):
        if found := self.take(NAME):
            return ("name", found[1])
        if found := self.take(rf"\(each {NUMBER} from {NUMBER}\)"):
            return self.sound(int(found[1]) > 0, ("each", int(found[1]), int(found[2])))
        if self.take(r"\(on -\)"):
            return ("on", [])
        if found := self.take(rf"\(on ({NUMBER}( {NUMBER})*)\)"):
            days = [int(word) for word in found[1].split(" ")]
            return self.sound(days == sorted(set(days)), ("on", days))
        if found := self.take(rf"\(date {NUMBER} {NUMBER}\)"):
            return ("date", int(found[1]), int(found[2]))
        if found := self.take(r"\((starts|ends)\)"):
            return (found[1],)
        if self.take(r"\(! "):
            one = self.feast()
            self.want(r"\)")
            return ("not", one)
        if found := self.take(rf"\({NUMBER} th "):
            one = self.feast()
            self.want(" from ")
            other = self.feast()
            self.want(r"\)")
            return self.sound(int(found[1]) > 0, ("nth", int(found[1]), one, other))
        return self.joint()

    def joint(self):
        self.want(r"\(")
        one = self.feast()
        if self.take(" @ "):
            days = int(self.want(WHOLE)[1])
            self.want(r"\)")
            return ("moved", days, one)
        mark = self.want(" ([&+~<>]) ")[1]
        other = self.feast()
        self.want(r"\)")
        return ({sign: word for word, sign in MARKS.items()}[mark], one, other)

    def sound(self, good, thing):
        if not good:
            raise Wrong(self.text)
        return thing

    def term(self):
        if self.take("-"):
            return []
        steps = [self.step()]
        while self.take(", "):
            steps.append(self.step())
        return steps

    def step(self):
        if found := self.take(rf"(days|months|years|not before) {NUMBER}"):
            return (found[1], int(found[2]))
        if self.take("to "):
            return ("to", self.feast())
        if found := self.take(rf"work {NUMBER} "):
            return self.sound(int(found[1]) > 0, ("work", int(found[1]), self.feast()))
        word = self.want(r"(earlier|later) \[")[1]
        one = self.term()
        self.want(r"\] \[")
        other = self.term()
        self.want(r"\]")
        return (word, one, other)

    def calendar(self):
        years = [self.numbers()]
        while self.take("; "):
            years.append(self.numbers())
        return self.sound(all(size > 0 for year in years for size in year), years)

    def numbers(self, pattern=NUMBER):
        numbers = [int(self.want(pattern)[1])]
        while found := self.take(" " + pattern):
            numbers.append(int(found[1]))
        return numbers

    def almanac(self):
        years, feasts = self.calendar(), []
        while self.take(r" \| "):
            name = self.want(NAME)[1]
            self.want(": ")
            feast = self.feast()
            known = [before for before, _ in feasts]
            self.sound(name not in known and set(names_in(feast)) <= set(known), None)
            feasts.append((name, feast))
        return years, feasts

    def row(self, pattern=WHOLE):
        early = [] if self.take("- / ") else self.numbers(pattern)
        if self.at == 0 or early:
            self.want(" / ")
        return early, self.numbers(pattern)

    def ladder(self):
        early, turn = self.row(NUMBER)
        self.want(r" \+ ")
        rise = int(self.want(NUMBER)[1])
        numbers = early + turn + [turn[0] + rise]
        return self.sound(numbers == sorted(numbers), (early, turn, rise))


def said(text, kind):
    """What a text says, None if it says nothing."""
    reader = Reader(text)
    try:
        return reader.end(getattr(reader, kind)())
    except Wrong:
        return None


def names_in(feast):
    if feast[0] == "name":
        return [feast[1]]
    return [name for part in feast if isinstance(part, tuple) for name in names_in(part)]


# Drawing

def draw_number(chance, least=0):
    return chance.choice([least, least + 1, chance.randint(least, 20), chance.randint(least, 10 ** 9 - 1), 10 ** 9 - 1])


def draw_days(chance):
    return sorted({draw_number(chance) for _ in range(chance.randint(0, 4))})


def draw_text_feast(chance, deep, names=WORDS):
    """Some feast, so deep at most, with great numbers and names that are words of the language."""
    if deep == 0 or chance.random() < 0.2:
        word = chance.choice(["each", "on", "date", "starts", "ends", "name", "name"] if names else ["each", "on"])
        if word == "each":
            return (word, draw_number(chance, 1), draw_number(chance))
        if word == "on":
            return (word, draw_days(chance))
        if word == "date":
            return (word, draw_number(chance), draw_number(chance))
        return (word, chance.choice(names)) if word == "name" else (word,)
    word = chance.choice(list(MARKS) + ["not", "moved", "nth"])
    one, other = draw_text_feast(chance, deep - 1, names), draw_text_feast(chance, deep - 1, names)
    if word == "not":
        return (word, one)
    if word == "moved":
        return (word, draw_number(chance) * chance.choice([1, -1]), one)
    if word == "nth":
        return (word, draw_number(chance, 1), one, other)
    return (word, one, other)


def draw_text_term(chance, deep):
    steps = []
    for _ in range(chance.randint(0, 3)):
        word = chance.choice(["days", "months", "years", "not before", "to", "work"] + ["earlier", "later"] * (deep > 0))
        if word in ("earlier", "later"):
            steps.append((word, draw_text_term(chance, deep - 1), draw_text_term(chance, deep - 1)))
        elif word == "to":
            steps.append((word, draw_text_feast(chance, chance.randint(0, 2))))
        elif word == "work":
            steps.append((word, draw_number(chance, 1), draw_text_feast(chance, chance.randint(0, 2))))
        else:
            steps.append((word, draw_number(chance)))
    return steps


def draw_text_almanac(chance):
    years = [[draw_number(chance, 1) for _ in range(chance.randint(1, 3))] for _ in range(chance.randint(1, 3))]
    names = chance.sample(WORDS, chance.randint(0, 4))
    return years, [(name, draw_text_feast(chance, 2, names[:at])) for at, name in enumerate(names)]


def draw_text_row(chance):
    numbers = [draw_number(chance) * chance.choice([1, 1, -1]) for _ in range(chance.randint(1, 6))]
    cut = chance.randint(0, len(numbers) - 1)
    return numbers[:cut], numbers[cut:]


def near_by(chance, text, many):
    """Some texts that differ from a text by one sign put in, left out or exchanged, or by two signs exchanged."""
    for _ in range(many):
        at = chance.randint(0, len(text))
        way = chance.choice(["in", "out", "other", "twice", "swap", "blank"])
        if way == "in":
            yield text[:at] + chance.choice(SIGNS) + text[at:]
        elif way == "out":
            yield text[:at] + text[at + 1:]
        elif way == "other":
            yield text[:at] + chance.choice(SIGNS) + text[at + 1:]
        elif way == "twice":
            yield text[:at] + text[at:at + 1] * 2 + text[at + 1:]
        elif way == "swap":
            yield text[:at] + text[at + 1:at + 2] + text[at:at + 1] + text[at + 2:]
        else:
            yield text[:at] + " " + text[at:]
