"""The sheet: its rows, what slips do to it, and its text.

A row is (tag, behind, sign, out).
"""

from manyquills.errors import Backwards, Clash, NotYet
from manyquills.tags import BEGINNING, later


def place_or_none(rows, tag):
    for place, row in enumerate(rows):
        if row[0] == tag:
            return place
    return None


def place_of(rows, tag):
    place = place_or_none(rows, tag)
    if place is None:
        raise NotYet("no sign with this tag is on the sheet")
    return place


def place_behind(rows, behind):
    # The beginning has no row and stands ahead of them all.
    if behind == BEGINNING:
        return 0
    return place_of(rows, behind) + 1


def past_later(rows, place, tag):
    # Whatever hangs on a later sign is later still, so whole blocks are passed.
    while place < len(rows) and later(rows[place][0], tag):
        place = place + 1
    return place


def with_put(rows, tag, behind, sign):
    known = place_or_none(rows, tag)
    if known is not None:
        if rows[known][1] != behind or rows[known][2] != sign:
            raise Clash("this tag has another sign or place on the sheet")
        return list(rows)
    start = place_behind(rows, behind)
    if not later(tag, behind):
        raise Backwards("the tag is not later than the one it is put behind")
    place = past_later(rows, start, tag)
    return rows[:place] + [(tag, behind, sign, False)] + rows[place:]


def with_cut(rows, tag):
    place = place_of(rows, tag)
    row = rows[place]
    return rows[:place] + [(row[0], row[1], row[2], True)] + rows[place + 1:]


def heard(rows, slip):
    if slip[0] == "put":
        return with_put(rows, slip[1], slip[2], slip[3])
    return with_cut(rows, slip[1])


def laid(slips):
    rows = []
    for slip in slips:
        rows = heard(rows, slip)
    return rows


def words(rows):
    return "".join([row[2] for row in rows if not row[3]])


def block(rows, tag):
    first = place_of(rows, tag)
    inside = {tag: True}
    end = first + 1
    # What hangs on the sign follows it without a gap, each sign behind the one it was put behind.
    while end < len(rows) and rows[end][1] in inside:
        inside[rows[end][0]] = True
        end = end + 1
    return (first, end)


def stretches(rows):
    told = []
    for row in rows:
        number = row[0][1]
        if row[3]:
            continue
        if len(told) > 0 and told[-1][0] == number:
            told[-1] = (number, told[-1][1] + row[2])
        else:
            told.append((number, row[2]))
    return told
