"""Points 18 and 19, and 1, 4, 12, 16 and 17 over whole stories."""
import random
import unittest

from manyquills.lines import read, shown
from manyquills.sheet import laid, stretches, words
from manyquills.story import ends, held, story, texts
from tests.sheets import BEGINNING, HUGE, SIGNS, cut, ordered, put, some_deeds, told_again

A, B, C = put((1, 1), BEGINNING, "a"), put((2, 1), (1, 1), "b"), put((3, 1), (2, 1), "c")
WRITE_ABC = ("write", 1, 0, "abc")


def all_tell_all(many):
    """Twice round, so that what the last one learned reaches the first one too."""
    pairs = [(giver, giver % many + 1) for giver in range(1, many + 1)]
    return [("share", giver, taker) for giver, taker in pairs + pairs]


class Kinds(unittest.TestCase):
    def test_no_deeds(self):
        for many in (1, 2, 9):
            self.assertEqual(story(many, []), [])
            self.assertEqual(held(many, []), [[]] * many)
            self.assertEqual(ends(many, []), [[]] * many)
            self.assertEqual(texts(many, []), [""] * many)

    def test_lists_of_lists(self):
        deeds = [WRITE_ABC, ("rub", 1, 0, 1), ("share", 1, 2)]
        for told in (story, held, ends, texts):
            self.assertIs(type(told(3, deeds)), list)
        for each in held(3, deeds) + ends(3, deeds):
            self.assertIs(type(each), list)
        for each in texts(3, deeds):
            self.assertIs(type(each), str)

    def test_an_answer_for_each_deed(self):
        deeds = [WRITE_ABC, ("rub", 1, 1, 1), ("tell", 1, 2, 0), ("tell", 1, 2, 0), ("tell", 1, 2, 9), ("share", 1, 2)]
        answers = story(2, deeds)
        self.assertEqual(answers, [[A, B, C], [cut((2, 1))], True, False, None, 3])
        self.assertEqual([type(answer) for answer in answers], [list, list, bool, bool, type(None), int])

    def test_in_the_order_of_the_numbers(self):
        deeds = [("write", 3, 0, "x"), ("write", 1, 0, "yz"), ("rub", 1, 0, 1)]
        self.assertEqual(held(3, deeds), [
            [put((1, 1), BEGINNING, "y"), put((2, 1), (1, 1), "z"), cut((1, 1))], [], [put((1, 3), BEGINNING, "x")],
        ])
        self.assertEqual(ends(3, deeds), [
            [((1, 1), BEGINNING, "y", True), ((2, 1), (1, 1), "z", False)], [], [((1, 3), BEGINNING, "x", False)],
        ])
        self.assertEqual(texts(3, deeds), ["z", "", "x"])


class WriteAndRub(unittest.TestCase):
    def test_write(self):
        self.assertEqual(story(1, [WRITE_ABC]), [[A, B, C]])
        self.assertEqual(story(3, [("write", 2, 5, "x")]), [[put((1, 2), BEGINNING, "x")]])

    def test_write_nothing(self):
        deeds = [("write", 1, 0, ""), ("write", 1, 7, "")]
        self.assertEqual(story(1, deeds), [[], []])
        self.assertEqual(held(1, deeds), [[]])
        self.assertEqual(story(1, [WRITE_ABC, ("write", 1, 1, ""), ("write", 1, 1, "d")])[1:], [
            [], [put((4, 1), (1, 1), "d")],
        ])

    def test_write_at_nought_within_at_the_end_and_past_it(self):
        for place, text in ((0, "xyabc"), (1, "axybc"), (2, "abxyc"), (3, "abcxy"), (4, "abcxy"), (HUGE, "abcxy")):
            self.assertEqual(texts(1, [WRITE_ABC, ("write", 1, place, "xy")]), [text])

    def test_write_where_signs_are_taken_out(self):
        deeds = [WRITE_ABC, ("rub", 1, 1, 1), ("write", 1, 1, "x"), ("write", 1, 3, "y"), ("write", 1, 0, "z")]
        self.assertEqual(story(1, deeds)[2:], [
            [put((4, 1), (1, 1), "x")], [put((5, 1), (3, 1), "y")], [put((6, 1), BEGINNING, "z")],
        ])
        self.assertEqual(texts(1, deeds), ["zaxcy"])

    def test_write_by_a_hand_without_signs_on_its_sheet(self):
        deeds = [WRITE_ABC, ("share", 1, 2), ("write", 2, 1, "x"), ("write", 3, 1, "y")]
        self.assertEqual(story(3, deeds)[2:], [[put((4, 2), (1, 1), "x")], [put((1, 3), BEGINNING, "y")]])
        self.assertEqual(texts(3, deeds), ["abc", "axbc", "y"])

    def test_rub(self):
        cases = [
            (0, 0, [], "abc"), (0, 1, [1], "bc"), (1, 1, [2], "ac"), (2, 1, [3], "ab"), (0, 3, [1, 2, 3], ""),
            (1, 2, [2, 3], "a"), (1, 9, [2, 3], "a"), (3, 1, [], "abc"), (4, 2, [], "abc"), (0, HUGE, [1, 2, 3], ""),
            (HUGE, HUGE, [], "abc"), (2, 0, [], "abc"), (3, 0, [], "abc"),
        ]
        for place, many, counts, text in cases:
            deeds = [WRITE_ABC, ("rub", 1, place, many)]
            self.assertEqual(story(1, deeds)[1], [cut((count, 1)) for count in counts])
            self.assertEqual(texts(1, deeds), [text])
            self.assertEqual(held(1, deeds), [[A, B, C] + [cut((count, 1)) for count in counts]])

    def test_rub_where_nothing_is(self):
        self.assertEqual(story(2, [("rub", 1, 0, 1), WRITE_ABC, ("rub", 2, 0, 1)]), [[], [A, B, C], []])

    def test_rub_what_another_hand_wrote(self):
        deeds = [WRITE_ABC, ("share", 1, 2), ("rub", 2, 1, 1)]
        self.assertEqual(story(2, deeds)[2], [cut((2, 1))])
        self.assertEqual(texts(2, deeds), ["abc", "ac"])

    def test_every_sign(self):
        deeds = [("write", 1, 0, SIGNS), ("share", 1, 2)]
        self.assertEqual(texts(2, deeds), [SIGNS, SIGNS])


class Tell(unittest.TestCase):
    def test_new_and_known(self):
        deeds = [WRITE_ABC] + [("tell", 1, 2, which) for which in (0, 1, 0, 2, 2)]
        answers = story(2, deeds)[1:]
        self.assertEqual(answers, [True, True, False, True, False])
        self.assertEqual([type(answer) for answer in answers], [bool] * 5)
        self.assertEqual(held(2, deeds), [[A, B, C], [A, B, C]])

    def test_which_counts_in_the_order_in_which_the_giver_keeps_them(self):
        deeds = [("write", 2, 0, "x"), WRITE_ABC, ("tell", 1, 2, 0), ("rub", 2, 1, 1)]
        deeds = deeds + [("tell", 2, 3, 1), ("tell", 2, 3, 2)]
        self.assertEqual(held(3, deeds)[1], [put((1, 2), BEGINNING, "x"), A, cut((1, 1))])
        self.assertEqual(story(3, deeds)[4:], [True, True])
        self.assertEqual(held(3, deeds)[2], [A, cut((1, 1))])

    def test_the_giver_has_no_such_slip(self):
        deeds = [("tell", 1, 2, 0), WRITE_ABC, ("tell", 1, 2, 3), ("tell", 1, 2, HUGE), ("tell", 2, 1, 0)]
        answers = story(2, deeds)
        self.assertEqual(answers, [None, [A, B, C], None, None, None])
        self.assertEqual(held(2, deeds), [[A, B, C], []])

    def test_the_taker_refuses(self):
        deeds = [WRITE_ABC, ("rub", 1, 0, 1), ("tell", 1, 2, 1), ("tell", 1, 2, 3)]
        self.assertEqual(story(2, deeds)[2:], [None, None])
        self.assertEqual(held(2, deeds)[1], [])
        self.assertEqual(ends(2, deeds)[1], [])
        more = deeds + [("tell", 1, 2, 0), ("tell", 1, 2, 3), ("tell", 1, 2, 2), ("tell", 1, 2, 1), ("tell", 1, 2, 2)]
        self.assertEqual(story(2, more)[4:], [True, True, None, True, True])
        self.assertEqual(held(2, more)[1], [A, cut((1, 1)), B, C])
        self.assertEqual(texts(2, more), ["bc", "bc"])

    def test_a_refused_one_changes_nothing_of_what_is_done_next(self):
        deeds = [WRITE_ABC, ("tell", 1, 2, 2), ("write", 2, 0, "x")]
        self.assertEqual(story(2, deeds)[1:], [None, [put((1, 2), BEGINNING, "x")]])

    def test_giver_and_taker_the_same(self):
        deeds = [("tell", 1, 1, 0), WRITE_ABC, ("tell", 1, 1, 0), ("tell", 1, 1, 2), ("tell", 1, 1, 3)]
        self.assertEqual(story(1, deeds), [None, [A, B, C], False, False, None])
        self.assertEqual(held(1, deeds), [[A, B, C]])

    def test_told_what_it_made_itself(self):
        deeds = [WRITE_ABC, ("share", 1, 2), ("tell", 2, 1, 0), ("tell", 2, 1, 2)]
        self.assertEqual(story(2, deeds)[2:], [False, False])
        self.assertEqual(held(2, deeds)[0], [A, B, C])

    def test_the_giver_stays_as_it_was(self):
        deeds = [WRITE_ABC, ("tell", 1, 2, 0)]
        self.assertEqual(ends(2, deeds)[0], ordered([A, B, C]))
        self.assertEqual(held(2, deeds)[0], [A, B, C])

    def test_a_sign_that_is_taken_out_with_the_taker_already(self):
        deeds = [WRITE_ABC, ("share", 1, 2), ("rub", 2, 0, 1), ("tell", 1, 2, 0)]
        self.assertEqual(story(2, deeds)[3], False)
        self.assertEqual(texts(2, deeds), ["abc", "bc"])


class Share(unittest.TestCase):
    def test_all_in_the_order_in_which_the_giver_keeps_them(self):
        deeds = [("write", 2, 0, "x"), WRITE_ABC, ("rub", 1, 1, 1), ("share", 1, 2)]
        answer = story(2, deeds)[3]
        self.assertEqual(answer, 4)
        self.assertIs(type(answer), int)
        self.assertEqual(held(2, deeds), [
            [A, B, C, cut((2, 1))], [put((1, 2), BEGINNING, "x"), A, B, C, cut((2, 1))],
        ])
        self.assertEqual(texts(2, deeds), ["ac", "xac"])

    def test_only_what_is_new_counts(self):
        deeds = [WRITE_ABC, ("tell", 1, 2, 0), ("share", 1, 2), ("share", 1, 2), ("rub", 1, 0, 2), ("share", 1, 2)]
        self.assertEqual([story(2, deeds)[place] for place in (2, 3, 5)], [2, 0, 2])

    def test_nothing_is_new(self):
        deeds = [WRITE_ABC, ("share", 2, 1), ("share", 1, 2), ("share", 2, 1), ("share", 1, 2)]
        answers = story(2, deeds)[1:]
        self.assertEqual(answers, [0, 3, 0, 0])
        self.assertEqual([type(answer) for answer in answers], [int] * 4)

    def test_nothing_to_share(self):
        self.assertEqual(story(2, [("share", 1, 2)]), [0])

    def test_giver_and_taker_the_same(self):
        deeds = [("share", 1, 1), WRITE_ABC, ("rub", 1, 0, 1), ("share", 1, 1)]
        self.assertEqual(story(1, deeds), [0, [A, B, C], [cut((1, 1))], 0])
        self.assertEqual(held(1, deeds), [[A, B, C, cut((1, 1))]])

    def test_two_equal_cuts_by_two_hands(self):
        deeds = [WRITE_ABC, ("share", 1, 2), ("rub", 1, 0, 2), ("rub", 2, 0, 1), ("share", 1, 2), ("share", 2, 1)]
        self.assertEqual(story(2, deeds)[2:], [[cut((1, 1)), cut((2, 1))], [cut((1, 1))], 1, 0])
        self.assertEqual(held(2, deeds), [[A, B, C, cut((1, 1)), cut((2, 1))]] * 2)

    def test_what_was_heard_of_a_third(self):
        deeds = [WRITE_ABC, ("share", 1, 2), ("write", 2, 3, "d"), ("share", 2, 3), ("share", 3, 1)]
        self.assertEqual(story(3, deeds)[3:], [4, 1])
        self.assertEqual(texts(3, deeds), ["abcd"] * 3)

    def test_next_tag_after_sharing(self):
        deeds = [WRITE_ABC, ("rub", 1, 2, 1), ("share", 1, 2), ("write", 2, 1, "xy")]
        deeds = deeds + [("share", 2, 1), ("write", 1, 0, "z")]
        self.assertEqual(story(2, deeds)[3], [put((4, 2), (1, 1), "x"), put((5, 2), (4, 2), "y")])
        self.assertEqual(story(2, deeds)[5], [put((6, 1), BEGINNING, "z")])


class NothingHandedInIsChanged(unittest.TestCase):
    def test_deeds(self):
        for seed in range(10):
            deeds = some_deeds(random.Random(seed), 3, 30)
            for told in (story, held, ends, texts):
                handed = list(deeds)
                told(3, handed)
                self.assertEqual(handed, deeds)

    def test_lists_of_one_hand_are_not_those_of_another(self):
        deeds = [WRITE_ABC, ("share", 1, 2)]
        for told in (held, ends):
            lists = told(3, deeds)
            for each in lists:
                each.append("mark")
            self.assertEqual([len(each) for each in lists], [4, 4, 1])
            self.assertEqual([len(each) for each in told(3, deeds)], [3, 3, 0])

    def test_one_story_leaves_nothing_behind_for_another(self):
        deeds = some_deeds(random.Random(5), 3, 30)
        self.assertEqual(story(3, deeds), story(3, deeds))
        self.assertEqual(texts(3, deeds), texts(3, deeds))
        self.assertEqual(story(3, [WRITE_ABC]), [[A, B, C]])


class AsToldApart(unittest.TestCase):
    def assert_as_told_apart(self, many, deeds):
        answers, kept = told_again(many, deeds)
        sheets = [ordered(slips) for slips in kept]
        self.assertEqual(story(many, deeds), answers)
        self.assertEqual(held(many, deeds), kept)
        self.assertEqual(ends(many, deeds), sheets)
        self.assertEqual(texts(many, deeds), ["".join(row[2] for row in rows if not row[3]) for rows in sheets])

    def test_some_stories(self):
        for many in (1, 2, 3, 5, 9):
            for seed in range(60):
                self.assert_as_told_apart(many, some_deeds(random.Random(seed), many, 25))

    def test_seventy_deeds_by_nine_hands_and_some_more(self):
        for many, number in ((9, 70), (12, 90)):
            for seed in range(6):
                self.assert_as_told_apart(many, some_deeds(random.Random(seed), many, number))

    def test_a_hundred_and_ninety_rows_and_some_more(self):
        for signs in (7, 9):
            deeds = []
            for step in range(27):
                hand = step % 9 + 1
                deeds.append(("write", hand, step * 5, "ab cdefgh"[:signs]))
                deeds.append(("share", hand, hand % 9 + 1))
                if step % 4 == 0:
                    deeds.append(("rub", hand, step, 3))
            self.assert_as_told_apart(9, deeds)
            rows = ends(9, deeds + all_tell_all(9))
            self.assertEqual([len(each) for each in rows], [27 * signs] * 9)


class SameSlipsSameText(unittest.TestCase):
    """Points 1 and 12."""

    def test_all_tell_all(self):
        for many in (2, 3, 9):
            for seed in range(30):
                deeds = some_deeds(random.Random(seed), many, 50) + all_tell_all(many)
                kept = held(many, deeds)
                self.assertTrue(all(sorted(slips, key=repr) == sorted(kept[0], key=repr) for slips in kept))
                self.assertEqual(ends(many, deeds), [ordered(kept[0])] * many)
                self.assertEqual(len(set(texts(many, deeds))), 1)

    def test_the_orders_do_differ(self):
        deeds = [("write", 1, 0, "ab"), ("write", 2, 0, "cd"), ("write", 3, 0, "ef")] + all_tell_all(3)
        kept = held(3, deeds)
        self.assertEqual(len({tuple(slips) for slips in kept}), 3)
        self.assertEqual(texts(3, deeds), ["efcdab"] * 3)
        self.assertEqual([stretches(rows) for rows in ends(3, deeds)], [[(3, "ef"), (2, "cd"), (1, "ab")]] * 3)

    def test_hands_that_happen_to_keep_the_same(self):
        for seed in range(60):
            deeds = some_deeds(random.Random(seed), 5, 40)
            sheets = {}
            for slips, rows in zip(held(5, deeds), ends(5, deeds)):
                self.assertEqual(rows, laid(slips))
                self.assertEqual(sheets.setdefault(frozenset(slips), rows), rows)

    def test_pieces_make_up_the_text(self):
        for seed in range(30):
            deeds = some_deeds(random.Random(seed), 4, 40)
            for rows, text in zip(ends(4, deeds), texts(4, deeds)):
                self.assertEqual(words(rows), text)
                self.assertEqual("".join(piece for number, piece in stretches(rows)), text)

    def test_told_by_lines(self):
        for seed in range(30):
            deeds = some_deeds(random.Random(seed), 4, 40)
            for slips, rows in zip(held(4, deeds), ends(4, deeds)):
                self.assertEqual(laid([read(shown(slip)) for slip in slips]), rows)
