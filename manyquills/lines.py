"""Lines: slips written as texts, and read again."""

from manyquills.errors import NoSlip
from manyquills.tags import BEGINNING

# Written out, as isdigit also takes figures of other scripts.
FIGURES = "0123456789"

# The percent sign, the one between the blank and the tilde that is no sign of a text.
BARRED = 37


def shown_tag(tag):
    return str(tag[0]) + "." + str(tag[1])


def shown(slip):
    if slip[0] == "put":
        return " ".join(["put", shown_tag(slip[1]), shown_tag(slip[2]), slip[3]])
    return "cut " + shown_tag(slip[1])


def number_of(figures):
    # Counts and hands are from 1 on, so a nought ahead is wrong even where it is nought itself.
    if figures == "" or figures[0] == "0":
        raise NoSlip("a number is missing or begins with a nought")
    if not all([figure in FIGURES for figure in figures]):
        raise NoSlip("a number is not written in figures alone")
    return int(figures)


def tag_of(text):
    parts = text.split(".")
    if len(parts) != 2:
        raise NoSlip("a tag is not two numbers with a dot between")
    return (number_of(parts[0]), number_of(parts[1]))


def behind_of(text):
    # The only tag with noughts, and there is only this way to write it.
    if text == "0.0":
        return BEGINNING
    return tag_of(text)


def sign_of(text):
    if len(text) != 1:
        raise NoSlip("there is no sign, or more than one")
    if text < " " or text > "~" or ord(text) == BARRED:
        raise NoSlip("this is not one of the signs of a text")
    return text


def read(line):
    # Past the third blank all is the sign, which may be a blank itself.
    pieces = line.split(" ", 3)
    if len(pieces) == 4 and pieces[0] == "put":
        return ("put", tag_of(pieces[1]), behind_of(pieces[2]), sign_of(pieces[3]))
    if len(pieces) == 2 and pieces[0] == "cut":
        return ("cut", tag_of(pieces[1]))
    raise NoSlip("this is neither a put nor a cut")
