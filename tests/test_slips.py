"""Points 9 to 12, and 1 for what hears slips."""
import itertools
import unittest

from manyquills.errors import Backwards, Clash, NotYet, QuillError
from manyquills.sheet import heard, laid
from tests.sheets import BEGINNING, HUGE, TREE_ROWS, TREE_SLIPS, cut, ordered, orders, put, takeable

# Of each tag, whether the row of it is taken out or not must not matter: (4, 2) and (4, 1) are out.
REFUSED = [
    (put((1, 1), BEGINNING, "z"), Clash),
    (put((2, 1), BEGINNING, "b"), Clash),
    (put((4, 2), BEGINNING, "z"), Clash),
    (put((4, 1), (1, 1), "e"), Clash),
    (put((9, 1), (8, 1), "z"), NotYet),
    (put((2, 3), (3, 2), "z"), Backwards),
    (put((3, 1), (3, 2), "z"), Clash),
    (put((2, 2), (6, 3), "z"), Backwards),
    (put((4, 3), (5, 1), "z"), Backwards),
    (cut((9, 9)), NotYet),
    (cut(BEGINNING), NotYet),
]


class Put(unittest.TestCase):
    def test_on_the_empty_sheet(self):
        self.assertEqual(heard([], put((4, 7), BEGINNING, " ")), [((4, 7), BEGINNING, " ", False)])

    def test_one_row_more_and_the_others_as_they_were(self):
        for behind in [BEGINNING] + [row[0] for row in TREE_ROWS]:
            row = ((7, 5), behind, "n", False)
            rows = heard(TREE_ROWS, put((7, 5), behind, "n"))
            self.assertIs(type(rows), list)
            self.assertEqual(rows.count(row), 1)
            place = rows.index(row)
            self.assertEqual(rows[:place] + rows[place + 1:], TREE_ROWS)
            self.assertEqual(place, 0 if behind == BEGINNING else [other[0] for other in TREE_ROWS].index(behind) + 1)

    def test_past_the_rows_that_are_later(self):
        cases = [
            (put((4, 3), BEGINNING, "n"), 0),
            (put((3, 3), BEGINNING, "n"), 1),
            (put((1, 2), BEGINNING, "n"), 1),
            (put((3, 3), (1, 1), "n"), 2),
            (put((2, 2), (1, 1), "n"), 6),
            (put((1, 2), (1, 1), "n"), 8),
            (put((5, 2), (3, 2), "n"), 3),
            (put((4, 3), (3, 2), "n"), 5),
            (put((3, 3), (3, 2), "n"), 6),
            (put((2, 2), (2, 1), "n"), 8),
        ]
        for slip, place in cases:
            row = (slip[1], slip[2], "n", False)
            self.assertEqual(heard(TREE_ROWS, slip), TREE_ROWS[:place] + [row] + TREE_ROWS[place:], slip)

    def test_behind_a_sign_that_is_taken_out(self):
        rows = heard(TREE_ROWS, put((7, 1), (4, 2), "n"))
        self.assertEqual(rows[1], ((7, 1), (4, 2), "n", False))
        self.assertEqual(rows[0], TREE_ROWS[0])

    def test_heard_twice_changes_nothing(self):
        for slip in TREE_SLIPS:
            self.assertEqual(heard(TREE_ROWS, slip), TREE_ROWS, slip)

    def test_of_a_sign_that_is_taken_out_changes_nothing(self):
        rows = [((1, 1), BEGINNING, "a", True)]
        self.assertEqual(heard(rows, put((1, 1), BEGINNING, "a")), [((1, 1), BEGINNING, "a", True)])


class Cut(unittest.TestCase):
    def test_its_row_alone_says_true(self):
        for place, row in enumerate(TREE_ROWS):
            rows = heard(TREE_ROWS, cut(row[0]))
            self.assertIs(type(rows), list)
            self.assertIs(rows[place][3], True)
            self.assertEqual(rows[place][:3], row[:3])
            self.assertEqual(rows[:place] + rows[place + 1:], TREE_ROWS[:place] + TREE_ROWS[place + 1:])

    def test_heard_twice_changes_nothing(self):
        rows = heard(TREE_ROWS, cut((3, 2)))
        self.assertEqual(heard(rows, cut((3, 2))), rows)

    def test_of_a_tag_without_a_row(self):
        for rows in ([], TREE_ROWS):
            with self.assertRaises(NotYet):
                heard(rows, cut((7, 1)))

    def test_of_the_same_count_with_another_hand(self):
        with self.assertRaises(NotYet):
            heard(TREE_ROWS, cut((1, 2)))

    def test_of_the_beginning(self):
        for rows in ([], TREE_ROWS):
            with self.assertRaises(NotYet):
                heard(rows, cut(BEGINNING))


class Refused(unittest.TestCase):
    def assert_refused(self, refusal, rows, slip):
        with self.assertRaises(QuillError) as caught:
            heard(rows, slip)
        self.assertIs(type(caught.exception), refusal, slip)

    def test_each_slip_with_its_own_refusal(self):
        for slip, refusal in REFUSED:
            self.assert_refused(refusal, TREE_ROWS, slip)

    def test_clash_is_asked_ahead_of_not_yet(self):
        self.assert_refused(Clash, TREE_ROWS, put((1, 1), (8, 8), "a"))

    def test_clash_is_asked_ahead_of_backwards(self):
        self.assert_refused(Clash, TREE_ROWS, put((1, 1), (3, 2), "a"))
        self.assert_refused(Clash, TREE_ROWS, put((1, 1), (1, 1), "a"))

    def test_not_yet_is_asked_ahead_of_backwards(self):
        self.assert_refused(NotYet, TREE_ROWS, put((2, 2), (8, 8), "z"))
        self.assert_refused(NotYet, TREE_ROWS, put((9, 9), (9, 9), "z"))
        self.assert_refused(NotYet, [], put((1, 1), (1, 1), "a"))

    def test_backwards_by_the_hand_where_counts_are_the_same(self):
        rows = [((2, 2), BEGINNING, "a", False)]
        self.assert_refused(Backwards, rows, put((2, 1), (2, 2), "b"))
        self.assertEqual(len(heard(rows, put((2, 3), (2, 2), "b"))), 2)

    def test_backwards_where_the_beginning_is_put_behind_itself(self):
        for rows in ([], TREE_ROWS):
            self.assert_refused(Backwards, rows, put(BEGINNING, BEGINNING, "a"))

    def test_backwards_with_numbers_of_a_hundred_figures(self):
        rows = [((HUGE, HUGE - 1), BEGINNING, "a", False)]
        self.assert_refused(Backwards, rows, put((HUGE - 1, HUGE), (HUGE, HUGE - 1), "b"))
        self.assertEqual(len(heard(rows, put((HUGE, HUGE), (HUGE, HUGE - 1), "b"))), 2)

    def test_laid_refuses_as_heard_does(self):
        for slip, refusal in REFUSED:
            with self.assertRaises(QuillError) as caught:
                laid(TREE_SLIPS + [slip])
            self.assertIs(type(caught.exception), refusal, slip)

    def test_laid_hears_from_the_first_on(self):
        with self.assertRaises(NotYet):
            laid([cut((1, 1)), put((1, 1), BEGINNING, "a")])
        with self.assertRaises(NotYet):
            laid([put((2, 1), (1, 1), "b"), put((1, 1), BEGINNING, "a")])


class NothingHandedInIsChanged(unittest.TestCase):
    def test_heard(self):
        slips = TREE_SLIPS + [cut((1, 1)), put((7, 1), BEGINNING, "n"), put((2, 2), (1, 1), "n")]
        for slip in slips:
            rows = list(TREE_ROWS)
            heard(rows, slip)
            self.assertEqual(rows, TREE_ROWS, slip)

    def test_heard_where_it_refuses(self):
        for slip, refusal in REFUSED:
            rows = list(TREE_ROWS)
            with self.assertRaises(refusal):
                heard(rows, slip)
            self.assertEqual(rows, TREE_ROWS, slip)

    def test_laid(self):
        slips = list(TREE_SLIPS)
        laid(slips)
        self.assertEqual(slips, TREE_SLIPS)

    def test_laid_where_it_refuses(self):
        for slip, refusal in REFUSED:
            slips = TREE_SLIPS + [slip]
            with self.assertRaises(refusal):
                laid(slips)
            self.assertEqual(slips, TREE_SLIPS + [slip])


class AnyOrder(unittest.TestCase):
    """Point 12."""

    def test_every_small_tree_in_every_order(self):
        tags = [(1, 1), (1, 2), (2, 1), (2, 3), (4, 2)]
        choices = [[BEGINNING] + tags[:place] for place in range(len(tags))]
        for behinds in itertools.product(*choices):
            slips = [put(tag, behind, "x") for tag, behind in zip(tags, behinds)]
            sheet = ordered(slips)
            for order in orders(slips):
                self.assertEqual(laid(order), sheet, order)

    def test_puts_and_cuts_in_every_order(self):
        slips = [
            put((1, 1), BEGINNING, "a"),
            put((2, 2), (1, 1), "b"),
            put((2, 1), (1, 1), "c"),
            put((3, 1), BEGINNING, "d"),
            cut((1, 1)),
            cut((2, 1)),
            cut((3, 1)),
        ]
        sheet = [
            ((3, 1), BEGINNING, "d", True),
            ((1, 1), BEGINNING, "a", True),
            ((2, 2), (1, 1), "b", False),
            ((2, 1), (1, 1), "c", True),
        ]
        several = list(orders(slips))
        self.assertGreater(len(several), 100)
        for order in several:
            self.assertEqual(laid(order), sheet, order)

    def test_some_more_than_once(self):
        slips = [
            put((1, 1), BEGINNING, "a"),
            put((2, 2), (1, 1), "b"),
            put((2, 1), (1, 1), "c"),
            cut((1, 1)),
            cut((2, 1)),
        ]
        sheet = laid(slips)
        for order in orders(slips):
            for place in range(len(order) + 1):
                for again in order[:place]:
                    self.assertEqual(laid(order[:place] + [again] + order[place:]), sheet)
            self.assertEqual(laid(order + order), sheet)
            self.assertEqual(laid([slip for slip in order for time in range(3)]), sheet)

    def test_the_tree_in_several_orders(self):
        for stride in (1, 3, 7, 9):
            wanted = [TREE_SLIPS[place * stride % len(TREE_SLIPS)] for place in range(len(TREE_SLIPS))]
            order = takeable(wanted)
            self.assertEqual(sorted(order, key=repr), sorted(TREE_SLIPS, key=repr))
            self.assertEqual(laid(order), TREE_ROWS)
            self.assertEqual(laid(order + wanted), TREE_ROWS)
