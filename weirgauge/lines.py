"""Deeds and plans as lines: written, and read back."""

from weirgauge.errors import NoLine
from weirgauge.plans import check_plan
from weirgauge.rows import EVENT, MARK

LETTERS = "abcdefghijklmnopqrstuvwxyz"
FIGURES = "0123456789"

NUMBERS_BEHIND = {"fixed": 2, "sliding": 3, "pauses": 2}


def shown(deed):
    return " ".join([str(part) for part in deed])


def read(line):
    parts = line.split(" ")
    if parts[0] == MARK and len(parts) == 2:
        return (MARK, read_number(parts[1]))
    if parts[0] == EVENT and len(parts) == 4:
        return (EVENT, read_name(parts[1]), read_number(parts[2]), read_number(parts[3]))
    raise NoLine("no deed is written as this line")


def read_all(lines):
    return [read(line) for line in lines]


def read_plan(line):
    parts = line.split(" ")
    if NUMBERS_BEHIND.get(parts[0]) != len(parts) - 1:
        raise NoLine("no plan is written as this line")
    plan = tuple([parts[0]] + [read_number(part) for part in parts[1:]])
    check_plan(plan)
    return plan


def read_name(text):
    if not is_made_of(text, LETTERS):
        raise NoLine("the name is not of one or more of the letters a to z")
    return text


# Looked at figure by figure, since int reads more than what a number is written
# as: a sign +, blanks and line feeds at the ends, figures of other scripts.
def read_number(text):
    figures = text[1:] if text.startswith("-") else text
    if not is_made_of(figures, FIGURES):
        raise NoLine("a number is not written by figures")
    if figures.startswith("0") and text != "0":
        raise NoLine("a number begins with a nought that is not needed")
    return int(text)


def is_made_of(text, signs):
    return text != "" and all([sign in signs for sign in text])
