"""Point 17, and 1, 4 and 9 to 12 for a hand."""
import random
import unittest

from manyquills.errors import Backwards, Clash, NotYet, QuillError
from manyquills.hand import Hand
from manyquills.sheet import laid, words
from manyquills.tags import fresh
from tests.sheets import BEGINNING, HUGE, TREE_ROWS, TREE_SLIPS, cut, ordered, orders, put, some_deeds, takeable

# A hand that keeps the slips of the tree refuses each of these.
REFUSED = [
    (put((1, 1), BEGINNING, "z"), Clash),
    (put((4, 2), (1, 1), "d"), Clash),
    (put((1, 1), (8, 8), "a"), Clash),
    (put((9, 1), (8, 1), "z"), NotYet),
    (put((9, 9), (9, 9), "z"), NotYet),
    (put((2, 3), (3, 2), "z"), Backwards),
    (put((5, 9), (6, 3), "z"), Backwards),
    (cut((9, 9)), NotYet),
    (cut(BEGINNING), NotYet),
]


def tree_hand(number=1):
    hand = Hand(number)
    for slip in TREE_SLIPS:
        hand.hear(slip)
    return hand


class Begins(unittest.TestCase):
    def test_with_an_empty_sheet_and_without_slips(self):
        for number in (1, 2, 9, HUGE):
            hand = Hand(number)
            self.assertEqual((hand.number, hand.rows, hand.slips), (number, [], []))
            self.assertIs(type(hand.rows), list)
            self.assertIs(type(hand.slips), list)

    def test_each_hand_has_lists_of_its_own(self):
        one, two = Hand(1), Hand(1)
        one.write(0, "ab")
        self.assertEqual((two.rows, two.slips), ([], []))


class Hears(unittest.TestCase):
    def test_what_is_new_is_kept_in_the_order_in_which_it_came(self):
        hand = Hand(5)
        for place, slip in enumerate(TREE_SLIPS):
            self.assertIs(hand.hear(slip), True)
            self.assertEqual(hand.slips, TREE_SLIPS[:place + 1])
            self.assertEqual(hand.rows, ordered(TREE_SLIPS[:place + 1]))
        self.assertEqual(hand.rows, TREE_ROWS)
        self.assertEqual(hand.number, 5)
        self.assertIs(type(hand.rows), list)
        self.assertIs(type(hand.slips), list)

    def test_in_another_order(self):
        order = takeable(TREE_SLIPS[::-1])
        hand = Hand(5)
        self.assertEqual([hand.hear(slip) for slip in order], [True] * len(order))
        self.assertEqual(hand.slips, order)
        self.assertNotEqual(hand.slips, TREE_SLIPS)
        self.assertEqual(hand.rows, TREE_ROWS)

    def test_what_it_keeps_already_changes_nothing(self):
        hand = tree_hand()
        for slip in TREE_SLIPS + TREE_SLIPS[::-1]:
            self.assertIs(hand.hear(slip), False)
            self.assertEqual(hand.slips, TREE_SLIPS)
            self.assertEqual(hand.rows, TREE_ROWS)

    def test_an_equal_slip_that_is_another_object(self):
        hand = Hand(1)
        hand.hear(put((1, 2), BEGINNING, "a"))
        hand.hear(cut((1, 2)))
        self.assertIs(hand.hear(tuple(["put", tuple([1, 2]), tuple([0, 0]), "a"])), False)
        self.assertIs(hand.hear(tuple(["cut", tuple([1, 2])])), False)
        self.assertEqual(len(hand.slips), 2)

    def test_what_it_made_itself(self):
        hand = Hand(1)
        made = hand.write(0, "abc") + hand.rub(1, 1)
        rows = list(hand.rows)
        for slip in made:
            self.assertIs(hand.hear(slip), False)
        self.assertEqual(hand.slips, made)
        self.assertEqual(hand.rows, rows)

    def test_two_equal_cuts_are_the_same_slip(self):
        one, two = Hand(1), Hand(2)
        for slip in one.write(0, "a"):
            two.hear(slip)
        made_by_one, made_by_two = one.rub(0, 1), two.rub(0, 1)
        self.assertEqual(made_by_one, made_by_two)
        self.assertIs(one.hear(made_by_two[0]), False)
        self.assertIs(two.hear(made_by_one[0]), False)
        self.assertEqual(one.slips, [put((1, 1), BEGINNING, "a"), cut((1, 1))])
        self.assertEqual(two.slips, one.slips)

    def test_two_equal_cuts_told_to_a_third(self):
        hand = Hand(3)
        hand.hear(put((1, 1), BEGINNING, "a"))
        self.assertIs(hand.hear(cut((1, 1))), True)
        self.assertIs(hand.hear(cut((1, 1))), False)

    def test_a_put_of_a_sign_that_is_taken_out(self):
        hand = tree_hand()
        self.assertIs(hand.hear(put((4, 2), BEGINNING, "d")), False)
        self.assertEqual(hand.rows, TREE_ROWS)

    def test_slips_with_its_own_number_that_it_did_not_make(self):
        hand = Hand(2)
        self.assertIs(hand.hear(put((5, 2), BEGINNING, "a")), True)
        self.assertEqual(hand.write(1, "b"), [put((6, 2), (5, 2), "b")])

    def test_numbers_of_a_hundred_figures(self):
        hand = Hand(HUGE)
        self.assertIs(hand.hear(put((HUGE - 1, HUGE), BEGINNING, "a")), True)
        self.assertEqual(hand.write(1, "b"), [put((HUGE, HUGE), (HUGE - 1, HUGE), "b")])
        self.assertEqual(hand.rub(0, 1), [cut((HUGE - 1, HUGE))])
        self.assertIs(hand.hear(cut((HUGE - 1, HUGE))), False)
        self.assertEqual(words(hand.rows), "b")


class Refuses(unittest.TestCase):
    def assert_refused(self, hand, slip, refusal):
        rows, slips, number = list(hand.rows), list(hand.slips), hand.number
        with self.assertRaises(QuillError) as caught:
            hand.hear(slip)
        self.assertIs(type(caught.exception), refusal, slip)
        self.assertEqual((hand.rows, hand.slips, hand.number), (rows, slips, number))

    def test_each_slip_with_its_own_refusal(self):
        for slip, refusal in REFUSED:
            self.assert_refused(tree_hand(), slip, refusal)

    def test_again_and_again(self):
        hand = tree_hand()
        for slip, refusal in REFUSED + REFUSED:
            self.assert_refused(hand, slip, refusal)

    def test_on_the_empty_sheet(self):
        self.assert_refused(Hand(1), cut((1, 1)), NotYet)
        self.assert_refused(Hand(1), cut(BEGINNING), NotYet)
        self.assert_refused(Hand(1), put((2, 1), (1, 1), "a"), NotYet)
        self.assert_refused(Hand(1), put((1, 1), (1, 1), "a"), NotYet)

    def test_a_refused_slip_is_new_when_it_can_be_taken(self):
        hand = Hand(3)
        self.assert_refused(hand, cut((1, 1)), NotYet)
        self.assert_refused(hand, put((2, 2), (1, 1), "b"), NotYet)
        self.assertIs(hand.hear(put((1, 1), BEGINNING, "a")), True)
        self.assertIs(hand.hear(cut((1, 1))), True)
        self.assertIs(hand.hear(put((2, 2), (1, 1), "b")), True)
        self.assertEqual(hand.slips, [put((1, 1), BEGINNING, "a"), cut((1, 1)), put((2, 2), (1, 1), "b")])

    def test_a_refused_slip_does_not_count_for_the_next_tag(self):
        hand = tree_hand(4)
        self.assert_refused(hand, put((90, 1), (80, 1), "z"), NotYet)
        self.assertEqual(hand.write(0, "x"), [put((7, 4), BEGINNING, "x")])

    def test_goes_on_as_before(self):
        hand, other = tree_hand(), tree_hand()
        for slip, refusal in REFUSED:
            self.assert_refused(hand, slip, refusal)
        for each in (hand, other):
            each.write(3, "xy")
            each.rub(2, 2)
        self.assertEqual((hand.rows, hand.slips), (other.rows, other.slips))


class Makes(unittest.TestCase):
    def test_what_it_writes_it_hears_and_keeps_at_once(self):
        hand = Hand(2)
        made = hand.write(0, "ac")
        self.assertEqual(made, [put((1, 2), BEGINNING, "a"), put((2, 2), (1, 2), "c")])
        self.assertEqual(hand.slips, made)
        self.assertEqual(hand.rows, [((1, 2), BEGINNING, "a", False), ((2, 2), (1, 2), "c", False)])
        more = hand.write(1, "b")
        self.assertEqual(more, [put((3, 2), (1, 2), "b")])
        self.assertEqual(hand.slips, made + more)
        self.assertEqual(words(hand.rows), "abc")

    def test_what_it_rubs_out_it_hears_and_keeps_at_once(self):
        hand = Hand(2)
        made = hand.write(0, "abcd")
        cuts = hand.rub(1, 2)
        self.assertEqual(cuts, [cut((2, 2)), cut((3, 2))])
        self.assertEqual(hand.slips, made + cuts)
        self.assertEqual([row[3] for row in hand.rows], [False, True, True, False])
        self.assertEqual(words(hand.rows), "ad")
        self.assertEqual(hand.rub(1, 9), [cut((4, 2))])
        self.assertEqual(hand.rub(0, 9), [cut((1, 2))])
        self.assertEqual(hand.rub(0, 9), [])
        self.assertEqual(len(hand.slips), 8)

    def test_on_a_text_whose_signs_are_partly_taken_out(self):
        hand = Hand(1)
        hand.write(0, "abcd")
        hand.rub(1, 2)
        self.assertEqual(hand.write(1, "x"), [put((5, 1), (1, 1), "x")])
        self.assertEqual(words(hand.rows), "axd")
        self.assertEqual(hand.rub(1, 2), [cut((5, 1)), cut((4, 1))])
        self.assertEqual(hand.write(7, "y"), [put((6, 1), (1, 1), "y")])
        self.assertEqual(words(hand.rows), "ay")

    def test_after_all_is_rubbed_out(self):
        hand = Hand(1)
        hand.write(0, "ab")
        hand.rub(0, 2)
        self.assertEqual(hand.write(1, "c"), [put((3, 1), BEGINNING, "c")])
        self.assertEqual(words(hand.rows), "c")

    def test_rubs_out_signs_of_other_hands(self):
        hand = tree_hand(9)
        self.assertEqual(hand.rub(1, 3), [cut((3, 2)), cut((5, 1)), cut((6, 3))])
        self.assertEqual(words(hand.rows), "abh")

    def test_nothing(self):
        for hand in (Hand(1), tree_hand()):
            rows, slips = list(hand.rows), list(hand.slips)
            for place in (0, 1, 6, 7, HUGE):
                self.assertEqual(hand.write(place, ""), [])
                self.assertEqual(hand.rub(place, 0), [])
            self.assertEqual(hand.rub(6, 1), [])
            self.assertEqual((hand.rows, hand.slips), (rows, slips))

    def test_next_tag_counts_what_it_heard(self):
        hand = Hand(1)
        hand.write(0, "a")
        hand.hear(put((8, 3), BEGINNING, "b"))
        hand.hear(cut((8, 3)))
        self.assertEqual(fresh(hand.rows, 1), (9, 1))
        self.assertEqual(hand.write(1, "cd"), [put((9, 1), (1, 1), "c"), put((10, 1), (9, 1), "d")])

    def test_the_hand_writes_with_its_own_number(self):
        for number in (1, 4, 9):
            self.assertEqual([slip[1][1] for slip in tree_hand(number).write(2, "xy")], [number, number])

    def test_the_answer_is_a_new_list(self):
        for make in (lambda hand: hand.write(1, "xy"), lambda hand: hand.rub(1, 2)):
            hand, other = tree_hand(), tree_hand()
            made = make(hand)
            self.assertIs(type(made), list)
            self.assertEqual(make(other), made)
            made.append(put((99, 1), BEGINNING, "z"))
            made[0] = cut((1, 1))
            made.reverse()
            self.assertEqual((hand.slips, hand.rows), (other.slips, other.rows))
            self.assertEqual(hand.write(0, "n"), other.write(0, "n"))

    def test_the_first_answer_of_all_is_a_new_list(self):
        hand = Hand(1)
        made = hand.write(0, "ab")
        made.clear()
        self.assertEqual(len(hand.slips), 2)
        self.assertIs(hand.hear(put((1, 1), BEGINNING, "a")), False)

    def test_an_empty_answer_is_a_new_list(self):
        hand = Hand(1)
        for made in (hand.write(0, ""), hand.rub(0, 1)):
            made.append(cut((1, 1)))
        self.assertEqual((hand.slips, hand.rows), ([], []))

    def test_earlier_answers_stay_as_they_were(self):
        hand = Hand(1)
        made = hand.write(0, "ab")
        copy = list(made)
        hand.write(1, "c")
        hand.rub(0, 3)
        self.assertEqual(made, copy)


class AnyOrder(unittest.TestCase):
    """Points 1 and 12."""

    def test_every_order_of_some_slips_leads_to_the_same_sheet(self):
        slips = [
            put((1, 1), BEGINNING, "a"),
            put((2, 2), (1, 1), "b"),
            put((2, 1), (1, 1), "c"),
            put((3, 1), BEGINNING, "d"),
            cut((1, 1)),
            cut((3, 1)),
        ]
        for order in orders(slips):
            hand = Hand(4)
            self.assertEqual([hand.hear(slip) for slip in order + order], [True] * 6 + [False] * 6)
            self.assertEqual(hand.slips, order)
            self.assertEqual(hand.rows, ordered(slips))

    def test_hands_that_write_apart_and_tell_one_another_in_different_orders(self):
        for seed in range(40):
            chance = random.Random(seed)
            hands = [Hand(number) for number in range(1, 5)]
            for deed in some_deeds(chance, 4, 30):
                if deed[0] == "write":
                    hands[deed[1] - 1].write(deed[2], deed[3])
                elif deed[0] == "rub":
                    hands[deed[1] - 1].rub(deed[2], deed[3])
                elif deed[0] == "share":
                    for slip in list(hands[deed[1] - 1].slips):
                        hands[deed[2] - 1].hear(slip)
            slips = sorted({slip for hand in hands for slip in hand.slips}, key=repr)
            for hand in hands + [Hand(5), Hand(6)]:
                chance.shuffle(slips)
                for slip in takeable(slips):
                    hand.hear(slip)
                self.assertEqual(sorted(hand.slips, key=repr), sorted(slips, key=repr))
                self.assertEqual(hand.rows, ordered(slips))
                self.assertEqual(hand.rows, laid(hand.slips))
                self.assertEqual(words(hand.rows), words(hands[0].rows))

    def test_a_hundred_and_ninety_rows_and_some_more(self):
        for length in (190, 230):
            one, two = Hand(1), Hand(2)
            for place in range(0, length, 5):
                one.write(place // 3, "vwxyz")
            one.rub(10, 60)
            for slip in takeable(one.slips[::-1]):
                self.assertIs(two.hear(slip), True)
            self.assertEqual(len(two.rows), length)
            self.assertEqual(two.rows, one.rows)
            self.assertEqual(two.rows, ordered(one.slips))
