import unittest

from manyquills.sheet import heard
from manyquills.tags import fresh, later
from tests.sheets import BEGINNING, HUGE, TREE_ROWS, put


class Later(unittest.TestCase):
    """Point 3."""

    def test_greater_count_is_later_whatever_the_hands(self):
        self.assertIs(later((3, 1), (2, 9)), True)
        self.assertIs(later((2, 9), (3, 1)), False)
        self.assertIs(later((10, 1), (9, 1)), True)
        self.assertIs(later((9, 1), (10, 1)), False)

    def test_same_count_greater_hand_is_later(self):
        self.assertIs(later((2, 3), (2, 1)), True)
        self.assertIs(later((2, 1), (2, 3)), False)
        self.assertIs(later((2, 10), (2, 9)), True)

    def test_no_tag_is_later_than_itself(self):
        for tag in (BEGINNING, (1, 1), (5, 2), (HUGE, HUGE)):
            self.assertIs(later(tag, tag), False, tag)

    def test_every_sign_is_later_than_the_beginning(self):
        for tag in ((1, 1), (1, 9), (9, 1), (HUGE, HUGE)):
            self.assertIs(later(tag, BEGINNING), True, tag)
            self.assertIs(later(BEGINNING, tag), False, tag)

    def test_numbers_of_a_hundred_figures(self):
        self.assertIs(later((HUGE, 1), (HUGE - 1, HUGE)), True)
        self.assertIs(later((HUGE - 1, HUGE), (HUGE, 1)), False)
        self.assertIs(later((HUGE, HUGE), (HUGE, HUGE - 1)), True)
        self.assertIs(later((HUGE, HUGE - 1), (HUGE, HUGE)), False)

    def test_of_two_different_tags_just_one_is_later(self):
        tags = [BEGINNING] + [(count, hand) for count in range(1, 5) for hand in range(1, 5)]
        for place, one in enumerate(tags):
            for other_place, other in enumerate(tags):
                self.assertIs(later(one, other), place > other_place, (one, other))


class Fresh(unittest.TestCase):
    """Points 2 and 4."""

    def test_empty_sheet_gives_count_one(self):
        self.assertEqual(fresh([], 1), (1, 1))
        self.assertEqual(fresh([], 7), (1, 7))

    def test_it_is_a_pair(self):
        self.assertIs(type(fresh([], 1)), tuple)
        self.assertIs(type(fresh(TREE_ROWS, 1)), tuple)

    def test_one_more_than_the_greatest_of_all_hands(self):
        self.assertEqual(fresh(TREE_ROWS, 1), (7, 1))
        self.assertEqual(fresh(TREE_ROWS, 9), (7, 9))

    def test_greatest_count_in_any_row(self):
        for high in range(4):
            rows = [((9 if place == high else 2, place + 1), BEGINNING, "x", False) for place in range(4)]
            self.assertEqual(fresh(rows, 3), (10, 3))

    def test_taken_out_signs_count_too(self):
        rows = [((8, 2), BEGINNING, "x", True), ((3, 1), BEGINNING, "y", False)]
        self.assertEqual(fresh(rows, 1), (9, 1))
        self.assertEqual(fresh([((4, 1), BEGINNING, "x", True)], 1), (5, 1))

    def test_numbers_of_hands_are_not_counts(self):
        self.assertEqual(fresh([((2, 50), BEGINNING, "x", False)], 4), (3, 4))

    def test_numbers_of_a_hundred_figures(self):
        rows = [((HUGE - 1, 1), BEGINNING, "x", False)]
        self.assertEqual(fresh(rows, HUGE), (HUGE, HUGE))

    def test_later_than_every_tag_and_new(self):
        for number in range(1, 10):
            tag = fresh(TREE_ROWS, number)
            self.assertNotIn(tag, [row[0] for row in TREE_ROWS])
            self.assertTrue(all(later(tag, row[0]) for row in TREE_ROWS))

    def test_a_sheet_takes_fresh_tags_one_after_the_other(self):
        rows = []
        for number in (2, 1, 2, 2, 1):
            rows = heard(rows, put(fresh(rows, number), BEGINNING, "x"))
        self.assertEqual([row[0] for row in rows], [(5, 1), (4, 2), (3, 2), (2, 1), (1, 2)])

    def test_rows_stay_as_they_were(self):
        rows = list(TREE_ROWS)
        fresh(rows, 1)
        self.assertEqual(rows, TREE_ROWS)
