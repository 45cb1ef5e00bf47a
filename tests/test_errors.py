import unittest

from groupwalks import errors
from groupwalks.errors import BadNote, NoLift, NoName, NotLevel, NotPlain, NoTwist, TooMany, WalkError

REFUSALS = (TooMany, NotLevel, NoLift, NoTwist, NotPlain, NoName, BadNote)


class Refusals(unittest.TestCase):
    def test_any_refusal_is_a_value_error(self):
        self.assertEqual(WalkError.__bases__, (ValueError,))

    def test_each_stands_straight_under_walk_error(self):
        for refusal in REFUSALS:
            self.assertEqual(refusal.__bases__, (WalkError,))

    def test_none_is_another_one_or_stands_under_it(self):
        self.assertEqual(len(set(REFUSALS)), 7)
        for refusal in REFUSALS:
            for other in REFUSALS:
                if refusal is not other:
                    self.assertFalse(issubclass(refusal, other))

    def test_each_bears_its_own_name(self):
        for refusal in REFUSALS + (WalkError,):
            self.assertIs(getattr(errors, refusal.__name__), refusal)

    def test_each_is_made_with_a_text(self):
        for refusal in REFUSALS + (WalkError,):
            self.assertEqual(str(refusal("as told")), "as told")
            with self.assertRaises(WalkError):
                raise refusal("as told")
