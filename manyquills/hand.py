"""A hand: what it writes and rubs out, and what it keeps."""

from manyquills.sheet import heard
from manyquills.tags import BEGINNING, fresh


def standing(rows):
    return [row[0] for row in rows if not row[3]]


def just_ahead(rows, place):
    # The slice ends where the text does, so a place past the end counts as the end.
    return ([BEGINNING] + standing(rows)[:place])[-1]


def written(rows, number, place, signs):
    made = []
    behind = just_ahead(rows, place)
    tag = fresh(rows, number)
    for sign in signs:
        made.append(("put", tag, behind, sign))
        behind = tag
        tag = (tag[0] + 1, number)
    return made


def rubbed(rows, place, many):
    return [("cut", tag) for tag in standing(rows)[place:place + many]]


class Hand:
    def __init__(self, number):
        self.number = number
        self.rows = []
        self.slips = []

    def hear(self, slip):
        if slip in self.slips:
            return False
        # Ahead of the keeping: a slip that is refused here leaves the hand as it was.
        self.rows = heard(self.rows, slip)
        # A list of its own each time, so that one taken from here earlier stays as it was.
        self.slips = self.slips + [slip]
        return True

    def hear_all(self, slips):
        new = 0
        for slip in slips:
            if self.hear(slip):
                new = new + 1
        return new

    def write(self, place, signs):
        made = written(self.rows, self.number, place, signs)
        self.hear_all(made)
        return made

    def rub(self, place, many):
        made = rubbed(self.rows, place, many)
        self.hear_all(made)
        return made
