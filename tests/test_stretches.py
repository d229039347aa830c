"""Point 16."""
import unittest

from manyquills.sheet import stretches, words
from tests.sheets import BEGINNING, HUGE, TREE_ROWS


def sheet(signs):
    """A chain of signs, each told as its hand, itself and whether it is taken out."""
    rows = []
    behind = BEGINNING
    for count, (hand, sign, out) in enumerate(signs, start=1):
        rows.append(((count, hand), behind, sign, out))
        behind = (count, hand)
    return rows


class Stretches(unittest.TestCase):
    def test_empty_sheet(self):
        self.assertEqual(stretches([]), [])

    def test_one_hand(self):
        rows = sheet([(4, "a", False), (4, "b", False), (4, "c", False)])
        self.assertEqual(stretches(rows), [(4, "abc")])

    def test_kinds(self):
        told = stretches(TREE_ROWS)
        self.assertIs(type(told), list)
        for pair in told:
            self.assertIs(type(pair), tuple)

    def test_hands_in_turn(self):
        rows = sheet([(1, "a", False), (2, "b", False), (1, "c", False), (1, "d", False), (3, " ", False)])
        self.assertEqual(stretches(rows), [(1, "a"), (2, "b"), (1, "cd"), (3, " ")])

    def test_tree(self):
        self.assertEqual(stretches(TREE_ROWS), [(1, "a"), (2, "c"), (1, "f"), (3, "g"), (1, "bh")])

    def test_taken_out_signs_part_nothing(self):
        rows = sheet([(1, "a", False), (2, "b", True), (1, "c", False)])
        self.assertEqual(stretches(rows), [(1, "ac")])

    def test_taken_out_signs_at_both_ends(self):
        rows = sheet([(1, "a", True), (2, "b", False), (1, "c", True)])
        self.assertEqual(stretches(rows), [(2, "b")])

    def test_all_taken_out(self):
        self.assertEqual(stretches(sheet([(1, "a", True), (2, "b", True)])), [])

    def test_hands_of_a_hundred_figures(self):
        rows = sheet([(HUGE, "a", False), (HUGE - 1, "b", False), (HUGE - 1, "c", False)])
        self.assertEqual(stretches(rows), [(HUGE, "a"), (HUGE - 1, "bc")])

    def test_all_small_sheets(self):
        for pattern in range(6 ** 4):
            signs = []
            for sign in "abcd":
                pattern, kind = divmod(pattern, 6)
                signs.append((kind % 3 + 1, sign, kind >= 3))
            rows = sheet(signs)
            self.check(rows, stretches(rows))

    def check(self, rows, told):
        self.assertEqual("".join(piece for hand, piece in told), words(rows))
        hands = [row[0][1] for row in rows if not row[3]]
        self.assertEqual([hand for hand, piece in told for sign in piece], hands)
        self.assertNotIn("", [piece for hand, piece in told])
        for ahead, following in zip(told, told[1:]):
            self.assertNotEqual(ahead[0], following[0])

    def test_rows_stay_as_they_were(self):
        rows = list(TREE_ROWS)
        stretches(rows)
        self.assertEqual(rows, TREE_ROWS)
