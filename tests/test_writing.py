"""Points 13 to 15, and 4 and 1 for what writes."""
import random
import unittest

from manyquills.hand import Hand, rubbed, written
from manyquills.sheet import block, laid, stretches, words
from manyquills.story import ends, story
from tests.sheets import (
    BEGINNING, HUGE, SIGNS, TREE_ROWS, TREE_SLIPS, cut, hangs, ordered, put, some_deeds, told_again,
)

# Of the text of the tree, "acfgbh", in the order of the rows.
TREE_TEXT = "acfgbh"
TREE_LIVE = [(1, 1), (3, 2), (5, 1), (6, 3), (2, 1), (3, 1)]

ALL_OUT = [((2, 1), BEGINNING, "b", True), ((1, 1), BEGINNING, "a", True), ((3, 2), (1, 1), "c", True)]


def after(rows, slips):
    """By the tree of point 7, apart from the program."""
    told = [put(row[0], row[1], row[2]) for row in rows] + [cut(row[0]) for row in rows if row[3]]
    return ordered(told + slips)


class Written(unittest.TestCase):
    def test_one_sign_on_the_empty_sheet(self):
        self.assertEqual(written([], 1, 0, "a"), [put((1, 1), BEGINNING, "a")])
        self.assertEqual(written([], 7, 0, "a"), [put((1, 7), BEGINNING, "a")])

    def test_several_signs_on_the_empty_sheet(self):
        self.assertEqual(written([], 2, 0, "abc"), [
            put((1, 2), BEGINNING, "a"), put((2, 2), (1, 2), "b"), put((3, 2), (2, 2), "c"),
        ])

    def test_nothing(self):
        for rows in ([], TREE_ROWS, ALL_OUT):
            for place in (0, 1, 6, 7, HUGE):
                self.assertEqual(written(rows, 1, place, ""), [])

    def test_kinds(self):
        for made in (written([], 1, 0, ""), written(TREE_ROWS, 1, 3, "xyz")):
            self.assertIs(type(made), list)
            for slip in made:
                self.assertEqual([type(part) for part in slip], [str, tuple, tuple, str])
                self.assertIs(type(slip), tuple)

    def test_place_nought_is_behind_the_beginning(self):
        for rows in (TREE_ROWS, TREE_ROWS[1:], ALL_OUT):
            first = written(rows, 4, 0, "xy")[0]
            self.assertEqual(first[2], BEGINNING)

    def test_each_place_is_behind_the_sign_just_ahead(self):
        for place, tag in enumerate(TREE_LIVE, start=1):
            self.assertEqual(written(TREE_ROWS, 2, place, "xy"), [put((7, 2), tag, "x"), put((8, 2), (7, 2), "y")])

    def test_place_past_the_end_is_the_end(self):
        at_end = written(TREE_ROWS, 2, 6, "xy")
        self.assertEqual(at_end[0][2], (3, 1))
        for place in (7, 8, 100, HUGE, HUGE + 1):
            self.assertEqual(written(TREE_ROWS, 2, place, "xy"), at_end)

    def test_last_sign_of_the_text_not_of_the_rows(self):
        rows = [((1, 1), BEGINNING, "a", False), ((2, 1), (1, 1), "b", True)]
        for place in (1, 2, 3):
            self.assertEqual(written(rows, 1, place, "x"), [put((3, 1), (1, 1), "x")])

    def test_past_the_end_of_a_text_that_is_empty(self):
        for rows, count in (([], 1), (ALL_OUT, 4)):
            for place in (0, 1, 5, HUGE):
                self.assertEqual(written(rows, 3, place, "x"), [put((count, 3), BEGINNING, "x")])

    def test_next_tag_for_a_hand_with_signs_and_for_one_without(self):
        for number in (1, 3, 9):
            self.assertEqual([slip[1] for slip in written(TREE_ROWS, number, 2, "xyz")], [
                (7, number), (8, number), (9, number),
            ])

    def test_taken_out_signs_count_for_the_tag(self):
        rows = [((1, 1), BEGINNING, "a", False), ((9, 2), (1, 1), "b", True)]
        self.assertEqual(written(rows, 1, 1, "xy"), [put((10, 1), (1, 1), "x"), put((11, 1), (10, 1), "y")])

    def test_numbers_of_a_hundred_figures(self):
        rows = [((HUGE - 2, HUGE), BEGINNING, "a", False)]
        self.assertEqual(written(rows, HUGE - 1, 1, "xy"), [
            put((HUGE - 1, HUGE - 1), (HUGE - 2, HUGE), "x"), put((HUGE, HUGE - 1), (HUGE - 1, HUGE - 1), "y"),
        ])

    def test_every_sign(self):
        made = written([], 1, 0, SIGNS)
        self.assertEqual("".join(slip[3] for slip in made), SIGNS)
        self.assertEqual(words(laid(made)), SIGNS)

    def test_text_is_then_as_it_was_with_the_signs_at_that_place(self):
        for rows in ([], TREE_ROWS, TREE_ROWS[:1], ALL_OUT):
            text = "".join(row[2] for row in rows if not row[3])
            for place in range(len(text) + 3):
                for signs in ("", "x", "xy", " ", "xyz"):
                    for number in (1, 2, 3, 9):
                        made = written(rows, number, place, signs)
                        told = after(rows, made)
                        there = "".join(row[2] for row in told if not row[3])
                        self.assertEqual(there, text[:place] + signs + text[place:])

    def test_nothing_is_heard_and_rows_stay_as_they_were(self):
        rows = list(TREE_ROWS)
        written(rows, 1, 3, "xyz")
        self.assertEqual(rows, TREE_ROWS)


class Rubbed(unittest.TestCase):
    def test_a_cut_for_each_in_the_order_of_the_text(self):
        for place in range(7):
            for many in range(8):
                self.assertEqual(rubbed(TREE_ROWS, place, many), [cut(tag) for tag in TREE_LIVE[place:place + many]])

    def test_some_of_them_by_name(self):
        self.assertEqual(rubbed(TREE_ROWS, 0, 1), [cut((1, 1))])
        self.assertEqual(rubbed(TREE_ROWS, 2, 3), [cut((5, 1)), cut((6, 3)), cut((2, 1))])
        self.assertEqual(rubbed(TREE_ROWS, 5, 1), [cut((3, 1))])

    def test_none(self):
        for rows in ([], TREE_ROWS, ALL_OUT):
            for place in (0, 3, 6, 9, HUGE):
                self.assertEqual(rubbed(rows, place, 0), [])

    def test_more_than_are_left(self):
        for many in (2, 3, 100, HUGE):
            self.assertEqual(rubbed(TREE_ROWS, 4, many), [cut((2, 1)), cut((3, 1))])
            self.assertEqual(rubbed(TREE_ROWS, 5, many), [cut((3, 1))])
        self.assertEqual(rubbed(TREE_ROWS, 0, HUGE), [cut(tag) for tag in TREE_LIVE])

    def test_past_the_end(self):
        for place in (6, 7, 8, HUGE):
            for many in (1, 2, HUGE):
                self.assertEqual(rubbed(TREE_ROWS, place, many), [])

    def test_a_text_that_is_empty(self):
        for rows in ([], ALL_OUT):
            for place in (0, 1, 2):
                self.assertEqual(rubbed(rows, place, 3), [])

    def test_kinds(self):
        for made in (rubbed([], 0, 1), rubbed(TREE_ROWS, 0, 3)):
            self.assertIs(type(made), list)
            for slip in made:
                self.assertIs(type(slip), tuple)
                self.assertEqual([type(part) for part in slip], [str, tuple])

    def test_text_is_then_without_them(self):
        for place in range(8):
            for many in range(8):
                told = laid(TREE_SLIPS + rubbed(TREE_ROWS, place, many))
                self.assertEqual(words(told), TREE_TEXT[:place] + TREE_TEXT[place + many:])
                self.assertEqual([row[:3] for row in told], [row[:3] for row in TREE_ROWS])

    def test_numbers_of_a_hundred_figures(self):
        rows = [((HUGE, HUGE), BEGINNING, "a", False)]
        self.assertEqual(rubbed(rows, 0, 1), [cut((HUGE, HUGE))])

    def test_nothing_is_heard_and_rows_stay_as_they_were(self):
        rows = list(TREE_ROWS)
        rubbed(rows, 1, 3)
        self.assertEqual(rows, TREE_ROWS)


class StandsTogether(unittest.TestCase):
    """Point 15."""

    def assert_together(self, rows, made):
        tags = [row[0] for row in rows]
        for first, second in zip(made, made[1:]):
            if second[1] not in tags:
                continue
            between = tags[tags.index(first[1]) + 1:tags.index(second[1])]
            for tag in between:
                self.assertTrue(hangs(rows, tag, first[1]), (first, second, tag))

    def test_two_hands_write_at_the_same_place_apart(self):
        one, two = Hand(1), Hand(2)
        one.write(0, "abc")
        two.write(0, "xyz")
        for slip in list(two.slips):
            one.hear(slip)
        self.assertEqual(words(one.rows), "xyzabc")
        self.assertEqual(stretches(one.rows), [(2, "xyz"), (1, "abc")])

    def test_the_same_within_a_text(self):
        one, two = Hand(1), Hand(2)
        for slip in one.write(0, "()"):
            two.hear(slip)
        made_by_two = two.write(1, "xyz")
        one.write(1, "abc")
        for slip in made_by_two:
            one.hear(slip)
        self.assertEqual(words(one.rows), "(xyzabc)")

    def test_what_is_written_between_hangs_on_the_first(self):
        one = Hand(1)
        made = one.write(0, "ab")
        between = Hand(2)
        for slip in made:
            between.hear(slip)
        between.write(1, "xy")
        self.assertEqual(words(between.rows), "axyb")
        self.assert_together(between.rows, made)
        self.assertEqual(block(between.rows, made[0][1]), (0, 4))

    def test_after_each_deed_of_some_stories(self):
        for seed in range(20):
            deeds = some_deeds(random.Random(seed), 4, 40)
            in_one_go = [answer for deed, answer in zip(deeds, story(4, deeds)) if deed[0] == "write"]
            for number in range(1, len(deeds) + 1):
                for rows in ends(4, deeds[:number]):
                    for made in in_one_go:
                        self.assert_together(rows, made)


class WritingAsTheDocumentTells(unittest.TestCase):
    def test_against_the_stories_told_apart(self):
        for seed in range(100):
            deeds = [deed for deed in some_deeds(random.Random(seed), 1, 30) if deed[0] in ("write", "rub")]
            answers, kept = told_again(1, deeds)
            hand = Hand(1)
            for deed, answer in zip(deeds, answers):
                text = words(hand.rows)
                if deed[0] == "write":
                    self.assertEqual(written(hand.rows, 1, deed[2], deed[3]), answer)
                    self.assertEqual(hand.write(deed[2], deed[3]), answer)
                    self.assertEqual(words(hand.rows), text[:deed[2]] + deed[3] + text[deed[2]:])
                else:
                    self.assertEqual(rubbed(hand.rows, deed[2], deed[3]), answer)
                    self.assertEqual(hand.rub(deed[2], deed[3]), answer)
                    self.assertEqual(words(hand.rows), text[:deed[2]] + text[deed[2] + deed[3]:])
            self.assertEqual(hand.slips, kept[0])
