"""Lines: a rule written as a text, and read back from it."""

from gatebook.errors import NoLine
from gatebook.rules import PLACE, RIGHT, WHO, WORD

WORDS = ("give", "bar")
LETTERS = "abcdefghijklmnopqrstuvwxyz"
FIGURES = "0123456789"


def shown(rule):
    if rule[PLACE] < 0:
        raise NoLine("a place below nought has no figures")
    parts = [rule[WORD], rule[RIGHT], "at", written(rule[PLACE]), "to", rule[WHO]]
    check_parts(parts)
    return " ".join(parts)


def read(line):
    parts = line.split(" ")
    check_parts(parts)
    return (parts[0], parts[5], parts[1], number_of(parts[3]))


def read_all(lines):
    rules = {}
    for line in lines:
        rules[read(line)] = True
    return list(rules)


def check_parts(parts):
    if len(parts) != 6 or parts[0] not in WORDS or parts[2] != "at" or parts[4] != "to":
        raise NoLine("a line is: give or bar, the right, at, the place, to, who")
    if not made_of(parts[1], LETTERS) or not made_of(parts[5], LETTERS):
        raise NoLine("right and who are of the letters a to z")
    if not made_of(parts[3], FIGURES) or (parts[3].startswith("0") and parts[3] != "0"):
        raise NoLine("the place is in figures, without a nought ahead of others")


# Python's own tests for letters and figures also take those of other alphabets.
def made_of(text, signs):
    return text != "" and all([sign in signs for sign in text])


# One figure after the other, here and in the next one, since Python refuses to
# turn some thousand figures at once into a number or a number into them.
def number_of(figures):
    number = 0
    for figure in figures:
        number = number * 10 + int(figure)
    return number


def written(number):
    figures = str(number % 10)
    rest = number // 10
    while rest > 0:
        figures = str(rest % 10) + figures
        rest = rest // 10
    return figures
