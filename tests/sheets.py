"""What several tests need: sheets, and the order of point 7 and whole stories told apart from the program."""

BEGINNING = (0, 0)
HUGE = 10 ** 100 - 1
SIGNS = "".join(chr(code) for code in range(ord(" "), ord("~") + 1)).replace("%", "")


def put(tag, behind, sign):
    return ("put", tag, behind, sign)


def cut(tag):
    return ("cut", tag)


def ordered(slips):
    """The sheet of some slips by point 7 alone: a walk over the tree of what was put behind what."""
    cuts = {slip[1] for slip in slips if slip[0] == "cut"}
    behinds = {}
    for slip in set(slips):
        if slip[0] == "put":
            behinds.setdefault(slip[2], []).append(slip)
    rows = []
    waiting = sorted(behinds.get(BEGINNING, []), key=lambda slip: slip[1])
    while waiting:
        kind, tag, behind, sign = waiting.pop()
        rows.append((tag, behind, sign, tag in cuts))
        waiting.extend(sorted(behinds.get(tag, []), key=lambda slip: slip[1]))
    return rows


def hangs(rows, tag, on):
    """Point 6, from the sign upwards."""
    parents = {row[0]: row[1] for row in rows}
    while tag != BEGINNING:
        tag = parents[tag]
        if tag == on:
            return True
    return False


def needs(slip):
    return slip[2] if slip[0] == "put" else slip[1]


def is_takeable(slip, known):
    return needs(slip) == BEGINNING or needs(slip) in known


def orders(slips):
    """All orders of the slips in which each has what it speaks of ahead of it."""
    def grown(order, left, known):
        if not left:
            yield order
        for place, slip in enumerate(left):
            if is_takeable(slip, known):
                more = known | {slip[1]} if slip[0] == "put" else known
                yield from grown(order + [slip], left[:place] + left[place + 1:], more)
    return grown([], slips, frozenset())


def takeable(wanted):
    """The slips in the wanted order, but each held back until what it speaks of is there."""
    order, left, known = [], list(wanted), set()
    while left:
        slip = [slip for slip in left if is_takeable(slip, known)][0]
        left.remove(slip)
        order.append(slip)
        if slip[0] == "put":
            known.add(slip[1])
    return order


# Three hands apart. As a tree, later tags ahead:
#   (4,2) d                 taken out
#   (1,1) a
#     (3,2) c
#       (5,1) f
#         (6,3) g
#       (4,1) e             taken out
#     (2,1) b
#       (3,1) h
TREE_SLIPS = [
    put((1, 1), BEGINNING, "a"),
    put((2, 1), (1, 1), "b"),
    put((3, 2), (1, 1), "c"),
    put((4, 2), BEGINNING, "d"),
    put((4, 1), (3, 2), "e"),
    put((5, 1), (3, 2), "f"),
    put((6, 3), (5, 1), "g"),
    put((3, 1), (2, 1), "h"),
    cut((4, 2)),
    cut((4, 1)),
]

TREE_ROWS = [
    ((4, 2), BEGINNING, "d", True),
    ((1, 1), BEGINNING, "a", False),
    ((3, 2), (1, 1), "c", False),
    ((5, 1), (3, 2), "f", False),
    ((6, 3), (5, 1), "g", False),
    ((4, 1), (3, 2), "e", True),
    ((2, 1), (1, 1), "b", False),
    ((3, 1), (2, 1), "h", False),
]


def told_again(many, deeds):
    """A story told apart from the program, by points 13, 14, 17 and 18: the answers, and the slips of each hand.

    A sheet is made anew by `ordered` from the slips each time, and whether a slip is refused is asked by `is_takeable`.
    """
    kept = {number: [] for number in range(1, many + 1)}

    def live(number):
        return [row[0] for row in ordered(kept[number]) if not row[3]]

    def told(taker, slip):
        if slip in kept[taker]:
            return False
        if not is_takeable(slip, {other[1] for other in kept[taker] if other[0] == "put"}):
            return None
        kept[taker].append(slip)
        return True

    def answer(kind, hand, *more):
        if kind == "write":
            place, signs = more
            count = max([slip[1][0] for slip in kept[hand]], default=0)
            behinds = [([BEGINNING] + live(hand))[min(place, len(live(hand)))]]
            behinds += [(count + step, hand) for step in range(1, len(signs))]
            made = [put((count + step, hand), behinds[step - 1], sign) for step, sign in enumerate(signs, start=1)]
            kept[hand].extend(made)
            return made
        if kind == "rub":
            place, number = more
            made = [cut(tag) for at, tag in enumerate(live(hand)) if place <= at < place + number]
            kept[hand].extend(made)
            return made
        if kind == "tell":
            taker, which = more
            return told(taker, kept[hand][which]) if which < len(kept[hand]) else None
        return [told(more[0], slip) for slip in list(kept[hand])].count(True)

    return [answer(*deed) for deed in deeds], [kept[number] for number in sorted(kept)]


def some_deeds(chance, many, number):
    """Deeds of all kinds, as a seeded source of chance picks them; places and the like partly past what is there."""
    deeds = []
    for step in range(number):
        kind = chance.choice(["write", "write", "rub", "tell", "tell", "share", "share"])
        hand, other = chance.randint(1, many), chance.randint(1, many)
        if kind == "write":
            signs = "".join(chance.choice(SIGNS) for sign in range(chance.choice([0, 1, 1, 2, 3, 5])))
            deeds.append((kind, hand, chance.choice([0, 1, 2, 3, 7, 20, 10 ** 100]), signs))
        elif kind == "rub":
            deeds.append((kind, hand, chance.randint(0, 9), chance.choice([0, 1, 1, 2, 3, 10 ** 100])))
        elif kind == "tell":
            deeds.append((kind, hand, other, chance.randint(0, 12)))
        else:
            deeds.append((kind, hand, other))
    return deeds
