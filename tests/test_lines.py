"""Points 20 and 21, and 1 for lines."""
import unittest

from manyquills.errors import NoSlip
from manyquills.lines import read, shown
from tests.sheets import BEGINNING, HUGE, SIGNS, TREE_SLIPS, cut, put

WRITTEN = [
    ("put 3.1 0.0 a", put((3, 1), BEGINNING, "a")),
    ("put 4.2 3.1 b", put((4, 2), (3, 1), "b")),
    ("put 120.30 100.9 0", put((120, 30), (100, 9), "0")),
    ("put 3.1 2.1 .", put((3, 1), (2, 1), ".")),
    ("put 3.1 0.0  ", put((3, 1), BEGINNING, " ")),
    ("cut 3.1", cut((3, 1))),
    ("cut 10.20", cut((10, 20))),
    ("cut 1234567890.9876543210", cut((1234567890, 9876543210))),
]

# Python itself takes several of these for digits, and reads some of them as numbers.
FOREIGN_FIGURES = ["\u0663", "\u0967", "\uff13", "\u00b2", "\u2460", "\U0001d7d1"]
FOREIGN_SIGNS = ["\u00e4", "\u00a0", "\u20ac", "\u3000", "\U0001f58b", "\x7f", "\x80", "\x1f", "\x00", "\n", "\t", "\r"]


class Shown(unittest.TestCase):
    def test_ordinary_slips(self):
        for line, slip in WRITTEN:
            self.assertEqual(shown(slip), line)
            self.assertIs(type(shown(slip)), str)

    def test_every_sign(self):
        for sign in SIGNS:
            self.assertEqual(shown(put((2, 1), (1, 1), sign)), "put 2.1 1.1 " + sign)

    def test_numbers_of_a_hundred_figures(self):
        nines = "9" * 100
        self.assertEqual(shown(cut((HUGE, HUGE))), f"cut {nines}.{nines}")
        self.assertEqual(shown(put((HUGE, 1), (1, HUGE), "x")), f"put {nines}.1 1.{nines} x")
        self.assertEqual(shown(cut((HUGE + 1, 2))), "cut 1" + "0" * 100 + ".2")

    def test_which_tag_is_later_is_not_asked(self):
        self.assertEqual(shown(put((1, 1), (1, 1), "a")), "put 1.1 1.1 a")


class Read(unittest.TestCase):
    def test_ordinary_lines(self):
        for line, slip in WRITTEN:
            self.assertEqual(read(line), slip)

    def test_kinds(self):
        slip = read("put 3.1 0.0 a")
        self.assertEqual([type(part) for part in slip], [str, tuple, tuple, str])
        self.assertEqual([type(number) for number in slip[1] + slip[2]], [int] * 4)
        self.assertIs(type(slip), tuple)
        slip = read("cut 3.1")
        self.assertIs(type(slip), tuple)
        self.assertEqual([type(part) for part in slip], [str, tuple])
        self.assertEqual([type(number) for number in slip[1]], [int, int])

    def test_every_sign(self):
        for sign in SIGNS:
            self.assertEqual(read("put 2.1 1.1 " + sign), put((2, 1), (1, 1), sign))

    def test_numbers_of_a_hundred_figures(self):
        nines = "9" * 100
        self.assertEqual(read(f"cut {nines}.{nines}"), cut((HUGE, HUGE)))
        self.assertEqual(read(f"put {nines}.1 1.{nines} x"), put((HUGE, 1), (1, HUGE), "x"))

    def test_somewhat_longer_numbers_are_not_refused(self):
        for length in (101, 110, 150):
            self.assertEqual(read("cut 1.1" + "0" * (length - 1)), cut((1, 10 ** (length - 1))))
            self.assertEqual(read("cut 1" + "0" * (length - 1) + ".1"), cut((10 ** (length - 1), 1)))

    def test_which_tag_is_later_is_not_asked(self):
        self.assertEqual(read("put 1.1 1.1 a"), put((1, 1), (1, 1), "a"))
        self.assertEqual(read("put 1.2 3.1 a"), put((1, 2), (3, 1), "a"))

    def test_what_is_shown_is_read(self):
        for slip in TREE_SLIPS:
            self.assertEqual(read(shown(slip)), slip)
        for count in (1, 9, 10, 11, 99, 100, 101, HUGE - 1, HUGE):
            for hand in (1, 5, 10, 90, HUGE):
                tag = (count, hand)
                for slip in (cut(tag), put(tag, (hand, count), " "), put(tag, BEGINNING, "-")):
                    self.assertEqual(read(shown(slip)), slip)


class Refused(unittest.TestCase):
    def assert_no_slip(self, *lines):
        for line in lines:
            with self.subTest(line=line):
                with self.assertRaises(NoSlip):
                    read(line)

    def test_those_that_the_document_names(self):
        self.assert_no_slip(
            "cut 0.0", "cut 3.0", "cut 03.1", "cut 3.1.1", "put 3.1 0.2 a", "put 3.1 0.0", "put 3.1 0.0 ab",
        )

    def test_nothing_and_next_to_nothing(self):
        self.assert_no_slip("", " ", "  ", "   ", "    ", ".", "\n", "put", "cut", "put ", "cut ", "put   ", "put    ")
        self.assert_no_slip("3.1", "0.0", "a", "cut .", "cut . ", "put . . a", "put 3.1", "put 3.1 ")

    def test_the_first_word(self):
        for word in ("", "Put", "PUT", "puts", "pu", "pat", "p", "set", "cut", "put3.1", "put\t", "putput"):
            self.assert_no_slip(word + " 3.1 0.0 a")
        for word in ("", "Cut", "CUT", "cuts", "cu", "cat", "c", "del", "put", "cut3.1", "cut\t", "cutcut"):
            self.assert_no_slip(word + " 3.1")

    def test_a_blank_too_many(self):
        self.assert_no_slip(" put 3.1 0.0 a", "put  3.1 0.0 a", "put 3.1  0.0 a", "put 3.1 0.0  a", "put 3.1 0.0 a ")
        self.assert_no_slip("put 3.1 0.0   ", " put 3.1 0.0  ", "put  3.1 0.0  ", "put 3.1  0.0  ", "put 3.1  0.0 ")
        self.assert_no_slip(" cut 3.1", "cut  3.1", "cut 3.1 ", "cut 3. 1", "cut 3 .1", "c ut 3.1", "cut 1 3.1")
        self.assert_no_slip("put 3 .1 0.0 a", "put 3. 1 0.0 a", "put 3.1 0 .0 a", "put 3.1 0. 0 a", "pu t 3.1 0.0 a")

    def test_a_blank_too_few(self):
        self.assert_no_slip("put3.1 0.0 a", "put 3.10.0 a", "put 3.1 0.0a", "put 3.1 0.0", "put 3.1 0.0 ")
        self.assert_no_slip("cut3.1", "put3.1 0.0  ", "put 3.10.0  ")

    def test_other_gaps_than_a_blank(self):
        for gap in ("\t", "\n", "\r", "\u00a0", "\u2003", "_", ","):
            for line in ("put 3.1 0.0 a", "cut 3.1"):
                for place in range(len(line)):
                    if line[place] == " ":
                        self.assert_no_slip(line[:place] + gap + line[place + 1:])

    def test_more_or_less_than_a_slip(self):
        self.assert_no_slip("cut 3.1 a", "cut 3.1 2.1", "cut 3.1 0.0 a")
        self.assert_no_slip("put 3.1 a", "put 3.1 0.0 a b", "put 3.1 0.0 a a")
        self.assert_no_slip("cut 3.1\n", "put 3.1 0.0 a\n", "\ncut 3.1", "cut 3.1\ncut 3.1", "cut 3.1\r", "cut 3.1\t")
        self.assert_no_slip("cut 3.1\x00", "\ufeffcut 3.1", "cut 3.1;", "cut (3.1)", "'cut 3.1'", "cut 3,1", "cut 3:1")

    def test_signs_that_are_none(self):
        self.assert_no_slip("put 3.1 0.0 %", "put 3.1 0.0 %%", "put 3.1 0.0 \\n", "put 3.1 0.0 aa")
        for sign in FOREIGN_SIGNS:
            self.assert_no_slip("put 3.1 0.0 " + sign)

    def test_all_other_signs_of_latin(self):
        for code in range(0x250):
            if chr(code) not in SIGNS:
                self.assert_no_slip("put 3.1 0.0 " + chr(code))

    def assert_no_tag(self, *tags):
        for tag in tags:
            self.assert_no_slip(f"cut {tag}", f"put {tag} 0.0 a", f"put 3.1 {tag} a", f"put 3.1 {tag}  ")

    def test_parts_of_a_tag(self):
        self.assert_no_tag("", ".", "3", "3.", ".1", "3..1", "3.1.", ".3.1", "3.1.1", "...", "31", "3,1")
        self.assert_no_tag("a.b", "3.a", "a.1", "3.1a", "a3.1")

    def test_noughts(self):
        self.assert_no_tag("0.1", "1.0", "0.2", "3.0", "03.1", "3.01", "003.1", "00.1", "1.00", "0.", ".0", "0")
        self.assert_no_tag("00.0", "0.00", "00.00", "-0.0", "0.-0", "+0.0", "0.+0", "0.0.0", "0x0.0")
        self.assert_no_slip("cut 0.0", "put 0.0 0.0 a", "put 0.0 3.1 a")

    def test_numbers_that_are_not_figures_alone(self):
        for wrong in ("-3", "+3", "3-", "3+", "--3", "1_0", "1e1", "0x1", "x", "3L", "1,000", "1'0", "\u22123"):
            self.assert_no_tag(wrong + ".1", "3." + wrong)
        for wrong in (" 3", "3 ", "\t3", "3\n", "\n3"):
            self.assert_no_tag(wrong + ".1", "3." + wrong)

    def test_figures_of_other_scripts(self):
        for figure in FOREIGN_FIGURES:
            self.assert_no_tag(figure + ".1", "3." + figure, "1" + figure + ".1", "3.1" + figure, figure + "1.1")

    def test_any_other_sign_put_in_for_a_figure_or_a_dot(self):
        for sign in [chr(code) for code in range(0x250)]:
            if sign not in "0123456789":
                self.assert_no_tag(sign + ".1", "1." + sign)
                if sign != ".":
                    self.assert_no_tag("3" + sign + "1")

    def test_a_piece_left_out_or_twice(self):
        for line in ("put 3.1 2.1 a", "cut 3.1"):
            for place in range(len(line)):
                self.assert_no_slip(line[:place] + line[place + 1:])
            for place in range(len(line)):
                if not line[place].isdigit():
                    self.assert_no_slip(line[:place] + line[place] + line[place:])

    def test_where_it_is_read_it_is_written_so(self):
        """Whatever is read must be shown as the very same line again: there is one way to write a slip."""
        lines = ["put 13.1 20.5 a", "cut 10.1", "put 3.1 0.0  "]
        for line in lines:
            for place in range(len(line) + 1):
                for sign in SIGNS + "%\n":
                    for near in (line[:place] + sign + line[place:], line[:place] + sign + line[place + 1:]):
                        try:
                            slip = read(near)
                        except NoSlip:
                            continue
                        self.assertEqual(shown(slip), near)
