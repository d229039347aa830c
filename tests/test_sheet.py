"""Points 5 to 8, and 1 for what only reads a sheet."""
import unittest

from manyquills.errors import NotYet
from manyquills.sheet import block, laid, words
from tests.sheets import BEGINNING, HUGE, SIGNS, TREE_ROWS, TREE_SLIPS, cut, hangs, ordered, put, takeable


def chain(length):
    return [put((count, 1), (count - 1, min(count - 1, 1)), "x") for count in range(1, length + 1)]


def bushy(length):
    """Signs of nine hands, each put behind some earlier one, picked by a rule."""
    tags = [BEGINNING]
    slips = []
    for count in range(1, length + 1):
        tag = (count // 3 + 1, count % 9 + 1) if count % 3 else (count // 3 + 1, 1)
        slips.append(put(tag, tags[count * count * 7 % len(tags)], SIGNS[count % len(SIGNS)]))
        tags.append(tag)
    return slips


class Rows(unittest.TestCase):
    def test_empty_sheet(self):
        self.assertEqual(laid([]), [])

    def test_row_of_a_put(self):
        rows = laid([put((3, 2), BEGINNING, "a")])
        self.assertEqual(rows, [((3, 2), BEGINNING, "a", False)])
        self.assertIs(type(rows), list)
        self.assertIs(type(rows[0]), tuple)
        self.assertIs(rows[0][3], False)

    def test_taken_out_sign_keeps_its_row(self):
        rows = laid([put((3, 2), BEGINNING, "a"), cut((3, 2))])
        self.assertEqual(rows, [((3, 2), BEGINNING, "a", True)])
        self.assertIs(type(rows[0]), tuple)
        self.assertIs(rows[0][3], True)

    def test_numbers_of_a_hundred_figures(self):
        slips = [
            put((HUGE - 1, HUGE), BEGINNING, "a"),
            put((HUGE, HUGE - 1), (HUGE - 1, HUGE), "b"),
            put((HUGE, HUGE), (HUGE - 1, HUGE), "c"),
            cut((HUGE, HUGE)),
        ]
        self.assertEqual(laid(slips), [
            ((HUGE - 1, HUGE), BEGINNING, "a", False),
            ((HUGE, HUGE), (HUGE - 1, HUGE), "c", True),
            ((HUGE, HUGE - 1), (HUGE - 1, HUGE), "b", False),
        ])
        self.assertEqual(block(laid(slips), (HUGE, HUGE)), (1, 2))


class Order(unittest.TestCase):
    """Point 7."""

    def test_later_tags_ahead_behind_the_beginning(self):
        rows = laid([put((count, 1), BEGINNING, "x") for count in (2, 5, 1, 4, 3)])
        self.assertEqual([row[0][0] for row in rows], [5, 4, 3, 2, 1])

    def test_same_count_greater_hand_ahead(self):
        rows = laid([put((1, hand), BEGINNING, "x") for hand in (2, 3, 1)])
        self.assertEqual([row[0][1] for row in rows], [3, 2, 1])

    def test_later_tags_ahead_behind_a_sign(self):
        slips = [put((1, 1), BEGINNING, "x")] + [put((count, 1), (1, 1), "x") for count in (3, 2, 5, 4)]
        self.assertEqual([row[0][0] for row in laid(slips)], [1, 5, 4, 3, 2])

    def test_each_followed_at_once_by_what_hangs_on_it(self):
        self.assertEqual(laid(TREE_SLIPS), TREE_ROWS)
        self.assertEqual(ordered(TREE_SLIPS), TREE_ROWS)

    def test_whole_blocks_are_passed(self):
        slips = TREE_SLIPS + [put((2, 9), (1, 1), "n")]
        self.assertEqual([row[2] for row in laid(slips)], list("dacfgenbh"))

    def test_a_block_of_an_earlier_sign_is_not_entered(self):
        slips = [
            put((1, 1), BEGINNING, "a"),
            put((9, 1), (1, 1), "b"),
            put((5, 2), BEGINNING, "c"),
        ]
        self.assertEqual([row[2] for row in laid(slips)], list("cab"))

    def test_behind_the_last_row_of_all(self):
        slips = TREE_SLIPS + [put((4, 9), (3, 1), "z")]
        self.assertEqual([row[2] for row in laid(slips)], list("dacfgebhz"))

    def test_a_hundred_and_ninety_rows_and_some_more(self):
        for length in (190, 230):
            for slips in (chain(length), bushy(length)):
                rows = laid(slips)
                self.assertEqual(len(rows), length)
                self.assertEqual(rows, ordered(slips))
                self.assertEqual(laid(takeable(slips[::-1])), rows)


class Words(unittest.TestCase):
    """Point 8."""

    def test_empty_sheet(self):
        self.assertEqual(words([]), "")

    def test_signs_in_the_order_of_the_rows_without_those_taken_out(self):
        self.assertEqual(words(TREE_ROWS), "acfgbh")
        self.assertIs(type(words(TREE_ROWS)), str)

    def test_all_taken_out(self):
        self.assertEqual(words([((1, 1), BEGINNING, "a", True), ((2, 1), (1, 1), "b", True)]), "")

    def test_every_sign(self):
        slips = []
        for count, sign in enumerate(SIGNS, start=1):
            slips.append(put((count, 1), (count - 1, min(count - 1, 1)), sign))
        self.assertEqual(words(laid(slips)), SIGNS)

    def test_rows_stay_as_they_were(self):
        rows = list(TREE_ROWS)
        words(rows)
        self.assertEqual(rows, TREE_ROWS)


class Block(unittest.TestCase):
    """Points 6 and 7."""

    def test_each_sign_of_a_tree(self):
        places = [block(TREE_ROWS, row[0]) for row in TREE_ROWS]
        self.assertEqual(places, [(0, 1), (1, 8), (2, 6), (3, 5), (4, 5), (5, 6), (6, 8), (7, 8)])

    def test_it_is_a_pair(self):
        self.assertIs(type(block(TREE_ROWS, (1, 1))), tuple)

    def test_one_row_alone(self):
        self.assertEqual(block([((1, 1), BEGINNING, "a", False)], (1, 1)), (0, 1))

    def test_signs_next_to_one_another_behind_the_beginning(self):
        rows = laid([put((count, 1), BEGINNING, "x") for count in (1, 2, 3)])
        self.assertEqual([block(rows, row[0]) for row in rows], [(0, 1), (1, 2), (2, 3)])

    def test_a_chain_goes_to_the_end(self):
        rows = laid(chain(190))
        for count in (1, 2, 100, 189, 190):
            self.assertEqual(block(rows, (count, 1)), (count - 1, 190))

    def test_taken_out_rows_belong_to_it(self):
        slips = chain(4) + [cut((count, 1)) for count in range(1, 5)]
        self.assertEqual(block(laid(slips), (2, 1)), (1, 4))

    def test_all_that_hangs_and_nothing_else(self):
        rows = laid(bushy(190))
        for row in rows:
            first, end = block(rows, row[0])
            self.assertEqual(rows[first], row)
            inside = [other[0] for other in rows[first + 1:end]]
            self.assertEqual(inside, [other[0] for other in rows if hangs(rows, other[0], row[0])])

    def test_tag_without_a_row(self):
        with self.assertRaises(NotYet):
            block(TREE_ROWS, (9, 9))

    def test_rows_stay_as_they_were(self):
        rows = list(TREE_ROWS)
        block(rows, (1, 1))
        self.assertEqual(rows, TREE_ROWS)
