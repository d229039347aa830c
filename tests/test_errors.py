import unittest

from manyquills.errors import Backwards, Clash, NoSlip, NotYet, QuillError

REFUSALS = (NotYet, Clash, Backwards, NoSlip)


class Errors(unittest.TestCase):
    def test_any_refusal_stands_right_under_value_error(self):
        self.assertEqual(QuillError.__bases__, (ValueError,))

    def test_each_refusal_stands_right_under_quill_error(self):
        for refusal in REFUSALS:
            self.assertEqual(refusal.__bases__, (QuillError,), refusal)

    def test_no_two_are_the_same(self):
        self.assertEqual(len(set(REFUSALS)), 4)
