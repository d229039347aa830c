"""What several tests need: sheets, and the order of point 7 told apart from the program."""

BEGINNING = (0, 0)
HUGE = 10 ** 100 - 1


def put(tag, behind, sign):
    return ("put", tag, behind, sign)


def cut(tag):
    return ("cut", tag)


def ordered(slips):
    """The sheet of some slips by point 7 alone: a walk over the tree of what was put behind what."""
    cuts = {slip[1] for slip in slips if slip[0] == "cut"}
    behinds = {}
    for slip in set(slips):
        if slip[0] == "put":
            behinds.setdefault(slip[2], []).append(slip)
    rows = []
    waiting = sorted(behinds.get(BEGINNING, []), key=lambda slip: slip[1])
    while waiting:
        kind, tag, behind, sign = waiting.pop()
        rows.append((tag, behind, sign, tag in cuts))
        waiting.extend(sorted(behinds.get(tag, []), key=lambda slip: slip[1]))
    return rows


def hangs(rows, tag, on):
    """Point 6, from the sign upwards."""
    parents = {row[0]: row[1] for row in rows}
    while tag != BEGINNING:
        tag = parents[tag]
        if tag == on:
            return True
    return False


def needs(slip):
    return slip[2] if slip[0] == "put" else slip[1]


def is_takeable(slip, known):
    return needs(slip) == BEGINNING or needs(slip) in known


def orders(slips):
    """All orders of the slips in which each has what it speaks of ahead of it."""
    def grown(order, left, known):
        if not left:
            yield order
        for place, slip in enumerate(left):
            if is_takeable(slip, known):
                more = known | {slip[1]} if slip[0] == "put" else known
                yield from grown(order + [slip], left[:place] + left[place + 1:], more)
    return grown([], slips, frozenset())


def takeable(wanted):
    """The slips in the wanted order, but each held back until what it speaks of is there."""
    order, left, known = [], list(wanted), set()
    while left:
        slip = [slip for slip in left if is_takeable(slip, known)][0]
        left.remove(slip)
        order.append(slip)
        if slip[0] == "put":
            known.add(slip[1])
    return order


# Three hands apart. As a tree, later tags ahead:
#   (4,2) d                 taken out
#   (1,1) a
#     (3,2) c
#       (5,1) f
#         (6,3) g
#       (4,1) e             taken out
#     (2,1) b
#       (3,1) h
TREE_SLIPS = [
    put((1, 1), BEGINNING, "a"),
    put((2, 1), (1, 1), "b"),
    put((3, 2), (1, 1), "c"),
    put((4, 2), BEGINNING, "d"),
    put((4, 1), (3, 2), "e"),
    put((5, 1), (3, 2), "f"),
    put((6, 3), (5, 1), "g"),
    put((3, 1), (2, 1), "h"),
    cut((4, 2)),
    cut((4, 1)),
]

TREE_ROWS = [
    ((4, 2), BEGINNING, "d", True),
    ((1, 1), BEGINNING, "a", False),
    ((3, 2), (1, 1), "c", False),
    ((5, 1), (3, 2), "f", False),
    ((6, 3), (5, 1), "g", False),
    ((4, 1), (3, 2), "e", True),
    ((2, 1), (1, 1), "b", False),
    ((3, 1), (2, 1), "h", False),
]
