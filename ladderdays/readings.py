"""Readings of the texts of feasts, terms, calendars, almanacs, rows and ladders.

Each function called `.._in` returns what a text, or a word of one, says, and None if it says nothing.
"""

from ladderdays.calendars import Calendar
from ladderdays.errors import DaysError, Unreadable
from ladderdays.feasts import Almanac, is_name
from ladderdays.rounds import ascends, is_ladder
from ladderdays.texts import SIGNS

DIGITS = "0123456789"
CLOSING = {"(": ")", "[": "]"}


def whole(things):
    """Return things, None if any of them is None."""
    return None if None in things else things


def number_in(word, least):
    """The integer from `least` on, which is at least 0."""
    if not isinstance(word, str) or not 1 <= len(word) <= 9 or not all([sign in DIGITS for sign in word]):
        return None
    number = int(word)
    return number if number >= least and word == str(number) else None


def integer_in(word):
    """The integer, which may be below 0."""
    if isinstance(word, str) and word.startswith("-"):
        number = number_in(word[1:], 1)
        return None if number is None else -number
    return number_in(word, 0)


def name_in(word):
    """The name."""
    return word if isinstance(word, str) and is_name(word) else None


def days_in(words):
    """The list of ascending days."""
    if words == ["-"]:
        return []
    days = whole([number_in(word, 0) for word in words])
    return days if days is not None and ascends(days) else None


def feast_by(part):
    """Return the feast that a part of a text stands for: a name, or what was made of brackets."""
    if isinstance(part, tuple):
        return part
    name = name_in(part)
    return None if name is None else ("name", name)


def joint_by(parts):
    """Return the feast of three parts, the one in the middle a sign."""
    if parts[1] == "@":
        return "moved", integer_in(parts[2]), feast_by(parts[0])
    words = [word for word, sign in SIGNS.items() if sign == parts[1]]
    return (words[0], feast_by(parts[0]), feast_by(parts[2])) if words else None


def body_by(parts):
    """Return the feast of the parts between its brackets; None, or None in it, if there is none."""
    word, many = parts[0], len(parts)
    if many == 1 and word in ("starts", "ends"):
        return (word,)
    if many == 2 and word == "!":
        return "not", feast_by(parts[1])
    if many == 4 and word == "each" and parts[2] == "from":
        return "each", number_in(parts[1], 1), number_in(parts[3], 0)
    if many == 5 and parts[1] == "th" and parts[3] == "from":
        return "nth", number_in(parts[0], 1), feast_by(parts[2]), feast_by(parts[4])
    # The names "on" and "date" may stand ahead of a sign, too.
    joint = joint_by(parts) if many == 3 else None
    if joint is None and many == 3 and word == "date":
        return "date", number_in(parts[1], 0), number_in(parts[2], 0)
    if joint is None and many > 1 and word == "on":
        return "on", days_in(parts[1:])
    return joint


def step_by(parts):
    """Return the step of its parts; None, or None in it, if there is none."""
    many = len(parts)
    if many == 2 and parts[0] in ("days", "months", "years"):
        return parts[0], number_in(parts[1], 0)
    if many == 2 and parts[0] == "to":
        return "to", feast_by(parts[1])
    if many == 3 and parts[0] == "work":
        return "work", number_in(parts[1], 1), feast_by(parts[2])
    if many == 3 and parts[:2] == ["not", "before"]:
        return "not before", number_in(parts[2], 0)
    if many == 3 and parts[0] in ("earlier", "later") and all([isinstance(part, list) for part in parts[1:]]):
        return tuple(parts)
    return None


def part_by(steps):
    """Return the feast of what stands in round brackets, a step without a comma."""
    made = body_by(steps[0]) if len(steps) == 1 else None
    return None if made is None else whole(made)


def term_by(steps):
    """Return the term of its steps."""
    if steps == [["-"]]:
        return []
    made = whole([step_by(parts) for parts in steps])
    return None if made is None or None in [whole(step) for step in made] else made


def steps_in(text):
    """The list of the steps of a text, between commas, each the list of its parts, between blanks.

    What stands in brackets is one part, the feast or the term that it is; so no text is too deep to be read.
    """
    groups, ends = [[[""]]], ""
    for sign in text:
        step = groups[-1][-1]
        part = step[-1] if step else None
        if sign == " ":
            step.append("")
        elif sign == ",":
            # The blank behind the comma begins the first part of the next step.
            groups[-1].append([])
        elif sign in CLOSING and part == "":
            groups.append([[""]])
            ends += CLOSING[sign]
        elif ends and sign == ends[-1]:
            made = part_by(groups.pop()) if sign == ")" else term_by(groups.pop())
            if made is None:
                return None
            groups[-1][-1][-1] = made
            ends = ends[:-1]
        elif isinstance(part, str) and sign not in "()[]":
            step[-1] = part + sign
        else:
            return None
    return None if ends else groups[0]


def feast_in(text):
    """The feast."""
    steps = steps_in(text)
    alone = steps is not None and len(steps) == 1 and len(steps[0]) == 1
    return feast_by(steps[0][0]) if alone else None


def term_in(text):
    """The term."""
    steps = steps_in(text)
    return None if steps is None else term_by(steps)


def calendar_in(text):
    """The calendar."""
    years = [whole([number_in(word, 1) for word in year.split(" ")]) for year in text.split("; ")]
    return None if None in years else Calendar(years)


def named_in(text):
    """The tuple of a name and its feast; None may stand in it."""
    name, _, feast = text.partition(": ")
    return name_in(name), feast_in(feast)


def almanac_in(text):
    """The almanac."""
    first, *rest = text.split(" | ")
    calendar, feasts = calendar_in(first), [named_in(part) for part in rest]
    if calendar is None or None in [whole(named) for named in feasts]:
        return None
    try:
        return Almanac(calendar, feasts)
    except DaysError:
        return None


def integers_in(text):
    """The list of integers."""
    return [] if text == "-" else whole([integer_in(word) for word in text.split(" ")])


def row_in(text):
    """The row."""
    early, _, turn = text.partition(" / ")
    row = integers_in(early), integers_in(turn)
    return whole(row) if row[1] else None


def ladder_in(text):
    """The ladder."""
    first, _, last = text.partition(" + ")
    row, rise = row_in(first), number_in(last, 0)
    if row is None or rise is None or not is_ladder((row[0], row[1], rise)):
        return None
    return row[0], row[1], rise


def readable(text, thing):
    """Return a thing; it is an error that a text says nothing."""
    if thing is None:
        raise Unreadable(text)
    return thing


def read_feast(text):
    """Return the feast with a text."""
    return readable(text, feast_in(text))


def read_term(text):
    """Return the term with a text."""
    return readable(text, term_in(text))


def read_calendar(text):
    """Return the calendar with a text."""
    return readable(text, calendar_in(text))


def read_almanac(text):
    """Return the almanac with a text."""
    return readable(text, almanac_in(text))


def read_row(text):
    """Return the row with a text."""
    return readable(text, row_in(text))


def read_ladder(text):
    """Return the ladder with a text."""
    return readable(text, ladder_in(text))
