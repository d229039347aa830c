"""Tags: pairs of a count and the number of a hand."""

BEGINNING = (0, 0)


def later(one, other):
    if one[0] == other[0]:
        return one[1] > other[1]
    return one[0] > other[0]


def fresh(rows, number):
    # Rows that are taken out count too: their tags are used up for good.
    greatest = max([row[0][0] for row in rows], default=0)
    return (greatest + 1, number)
