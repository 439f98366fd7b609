"""Texts of feasts, terms, calendars, almanacs, rows and ladders."""

from ladderdays.feasts import parts_of
from ladderdays.terms import chooses

# The signs of the feasts of two others that are written with a sign between them.
SIGNS = {"both": "&", "either": "+", "but": "~", "next": ">", "last": "<"}


def spelled(things):
    """Return the text of some numbers or names, separated by a space, - for none."""
    return " ".join([str(thing) for thing in things]) if things else "-"


def show_body(feast):
    """Return what stands in the round brackets of a feast."""
    word, parts = feast[0], [show_feast(part) for part in parts_of(feast)]
    if word == "each":
        return f"each {feast[1]} from {feast[2]}"
    if word == "on":
        return f"on {spelled(feast[1])}"
    if word == "date":
        return f"date {feast[1]} {feast[2]}"
    if word == "not":
        return f"! {parts[0]}"
    if word == "moved":
        return f"{parts[0]} @ {feast[1]}"
    if word == "nth":
        return f"{feast[1]} th {parts[0]} from {parts[1]}"
    if word in SIGNS:
        return f"{parts[0]} {SIGNS[word]} {parts[1]}"
    return word


def show_step(step):
    """Return the text of a step of a term."""
    word = step[0]
    if chooses(step):
        return f"{word} [{show_term(step[1])}] [{show_term(step[2])}]"
    if word == "to":
        return f"to {show_feast(step[1])}"
    if word == "work":
        return f"work {step[1]} {show_feast(step[2])}"
    return f"{word} {step[1]}"


def show_feast(feast):
    """Return the text of a feast."""
    return feast[1] if feast[0] == "name" else f"({show_body(feast)})"


def show_term(term):
    """Return the text of a term."""
    return ", ".join([show_step(step) for step in term]) if term else "-"


def show_calendar(calendar):
    """Return the text of a calendar."""
    return "; ".join([spelled(sizes) for sizes in calendar.years])


def show_almanac(almanac):
    """Return the text of an almanac."""
    feasts = [f"{name}: {show_feast(feast)}" for name, feast in almanac.feasts]
    return " | ".join([show_calendar(almanac.calendar)] + feasts)


def show_row(row):
    """Return the text of a row."""
    early, turn = row
    return f"{spelled(early)} / {spelled(turn)}"


def show_ladder(ladder):
    """Return the text of a ladder."""
    early, turn, rise = ladder
    return f"{show_row((early, turn))} + {rise}"
