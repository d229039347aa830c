"""Stories: the deeds of several hands, one after the other."""

from manyquills.errors import QuillError
from manyquills.hand import Hand
from manyquills.sheet import words


def begun(many):
    return [Hand(number) for number in range(1, many + 1)]


def told(giver, taker, which):
    if which >= len(giver.slips):
        return None
    slip = giver.slips[which]
    try:
        return taker.hear(slip)
    except QuillError:
        return None


def done(hands, deed):
    # Hands are numbered from 1 on, the places of a list from nought.
    hand = hands[deed[1] - 1]
    if deed[0] == "write":
        return hand.write(deed[2], deed[3])
    if deed[0] == "rub":
        return hand.rub(deed[2], deed[3])
    taker = hands[deed[2] - 1]
    if deed[0] == "tell":
        return told(hand, taker, deed[3])
    return taker.hear_all(hand.slips)


def story(many, deeds):
    hands = begun(many)
    answers = []
    for deed in deeds:
        answers.append(done(hands, deed))
    return answers


def hands_after(many, deeds):
    hands = begun(many)
    for deed in deeds:
        done(hands, deed)
    return hands


def held(many, deeds):
    return [hand.slips for hand in hands_after(many, deeds)]


def ends(many, deeds):
    return [hand.rows for hand in hands_after(many, deeds)]


def texts(many, deeds):
    return [words(hand.rows) for hand in hands_after(many, deeds)]
