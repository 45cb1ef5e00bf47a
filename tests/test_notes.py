import unittest
from itertools import product

from groupwalks.errors import BadNote
from groupwalks.groups import clock, flips
from groupwalks.notes import group_read, group_text, walk_read, walk_text
from samples import samples, swaps, turning, values_of_all_kinds

SIGNS = [chr(k) for k in range(ord(" "), ord("~") + 1)]


def no_texts():
    found = [thing for thing in values_of_all_kinds() if not isinstance(thing, str)]
    return found + [turning(2), (0, 1), [0, 1], ["0", "1"], ("0 1", "1 0"), ["0 1/1 0"], ("none",), {"none": "none"},
                    {"0": "1"}]


def texts_otherwise(text):
    """The text with a sign left out, put in, exchanged or another in its stead."""
    left_out = [text[:k] + text[k + 1:] for k in range(len(text))]
    put_in = [text[:k] + sign + text[k:] for k in range(len(text) + 1) for sign in SIGNS]
    others = [text[:k] + sign + text[k + 1:] for k in range(len(text)) for sign in SIGNS]
    swapped = [text[:k] + text[k + 1] + text[k] + text[k + 2:] for k in range(len(text) - 1)]
    return [other for other in left_out + put_in + others + swapped if other != text]


class Notes(unittest.TestCase):
    def assert_refused(self, read, thing):
        with self.assertRaises(BadNote, msg=repr(thing)):
            read(thing)


class Point90Groups(Notes):
    def test_by_hand(self):
        self.assertEqual(group_text(turning(1)), "0")
        self.assertEqual(group_text(turning(2)), "0 1/1 0")
        self.assertEqual(group_text(turning(3)), "0 1 2/1 2 0/2 0 1")
        self.assertEqual(group_read("0"), ((0,),))
        self.assertEqual(group_read("0 1/1 0"), clock(2))
        self.assertEqual(group_read("0 1 2/1 2 0/2 0 1"), clock(3))

    def test_written(self):
        for group in samples():
            rows = [" ".join(map(str, row)) for row in group]
            self.assertEqual(group_text(group), "/".join(rows))

    def test_written_and_read_again(self):
        for group in samples() + [clock(n) for n in range(1, 25)] + [flips(n) for n in range(1, 13)]:
            self.assertEqual(group_read(group_text(group)), group)
            self.assertIs(type(group_text(group)), str)

    def test_what_is_read_is_made_of_tuples_of_whole_numbers(self):
        group = group_read(group_text(swaps(3)))
        self.assertEqual({type(row) for row in group}, {tuple})
        self.assertEqual({type(number) for row in group for number in row}, {int})

    def test_texts_of_few_numbers(self):
        right = {group_text(turning(1)): turning(1), group_text(turning(2)): turning(2)}
        for many in range(1, 8):
            for signs in product("01 /", repeat=many):
                text = "".join(signs)
                if text in right:
                    self.assertEqual(group_read(text), right[text])
                else:
                    self.assert_refused(group_read, text)

    def test_a_needless_0_ahead(self):
        for text in ("00", "00 1/1 0", "0 01/1 0", "0 1/01 0", "0 1/1 00", "00 01/01 00", "0 1 2/1 2 0/2 0 01"):
            self.assert_refused(group_read, text)

    def test_signs_ahead_of_a_number(self):
        for text in ("+0", "-0", "0 +1/1 0", "0 -1/-1 0", "0 1/1 -0", "0 1/1 +0", "0 1.0/1 0", "0 1_/1 0", "0 0x1/1 0"):
            self.assert_refused(group_read, text)

    def test_blanks(self):
        for text in (" ", " 0", "0 ", "0  1/1 0", "0 1/1  0", " 0 1/1 0", "0 1/1 0 ", "0 1 /1 0", "0 1/ 1 0",
                     "0 1 / 1 0", "01/10", "0\t1/1\t0", "0\n", "0 1\n1 0", "0 1/1 0\n", "\n0 1/1 0"):
            self.assert_refused(group_read, text)

    def test_rows(self):
        for text in ("/", "0/", "/0", "0 1/1 0/", "/0 1/1 0", "0 1//1 0", "0 1/1", "0 1/", "0 1", "0/1 0", "0 1/1 0 1",
                     "0 1 1/1 0", "0 1/1 0/0 1", "0 1 2/1 2 0", "0 1 2/1 2/2 0 1", "0 1\\1 0", "0 1,1 0", "0/0", "0 0"):
            self.assert_refused(group_read, text)

    def test_rows_that_are_no_group(self):
        for text in ("1", "0 0/0 0", "0 1/1 1", "1 0/0 1", "0 1/0 1", "0 0/1 1", "0 2/2 0", "0 1 2/1 0 2/2 1 0",
                     "0 1 2/1 2 0/2 1 0", "0 1 2/1 2 0/2 0 3", "0 24/24 0", "0 99/99 0", "0 100/100 0"):
            self.assert_refused(group_read, text)
        for group in (clock(24), flips(4)):
            rows = group_text(group).split("/")
            self.assert_refused(group_read, "/".join([rows[0], rows[2], rows[1]] + rows[3:]))
            self.assert_refused(group_read, "/".join(rows[:-1]))

    def test_more_than_twenty_four_things(self):
        rows = [" ".join(str((i + j) % 25) for j in range(25)) for i in range(25)]
        self.assert_refused(group_read, "/".join(rows))

    def test_a_sign_otherwise(self):
        for group in (turning(1), turning(2), turning(3), swaps(3)):
            for other in texts_otherwise(group_text(group)):
                self.assert_refused(group_read, other)

    def test_texts_without_signs_and_other_words(self):
        for text in ("", "none", "group", "clock", "a", "0 a/a 0", "~", "nan", "0 1/1 0/none", "None", "()", "((0,),)",
                     "[[0]]"):
            self.assert_refused(group_read, text)

    def test_figures_of_other_scripts(self):
        for text in ("\u0660", "\u00b2", "0 \u0661/\u0661 0", "\uff10"):
            self.assert_refused(group_read, text)

    def test_long_texts(self):
        for text in ("0" * 2000, "0 " * 1000, "0/" * 1000, "9" * 2000, "1 0/" * 500, " " * 2000, "/" * 2000,
                     "1" * 5000):
            self.assert_refused(group_read, text)

    def test_what_is_no_text(self):
        for thing in no_texts():
            self.assert_refused(group_read, thing)


class Point90Walks(Notes):
    def test_by_hand(self):
        self.assertEqual(walk_text(()), "none")
        self.assertEqual(walk_text((0,)), "0")
        self.assertEqual(walk_text((1, 23, 0, 10)), "1 23 0 10")
        self.assertEqual(walk_read("none"), ())
        self.assertEqual(walk_read("0"), (0,))
        self.assertEqual(walk_read("1 23 0 10"), (1, 23, 0, 10))

    def test_written_and_read_again(self):
        walks = [(), (0,), (0, 0), (1,) * 60, tuple(range(24)), tuple(range(24))[::-1], (10, 1, 20, 2), (23,) * 60]
        for walk in walks + list(product((0, 1, 9, 10, 23), repeat=3)):
            self.assertEqual(walk_read(walk_text(walk)), walk)
            self.assertEqual(walk_text(walk), " ".join(map(str, walk)) or "none")
            self.assertEqual({type(number) for number in walk_read(walk_text(walk))} - {int}, set())
            self.assertIs(type(walk_read(walk_text(walk))), tuple)
            self.assertIs(type(walk_text(walk)), str)

    def test_numbers_from_0_to_23(self):
        for number in range(24):
            self.assertEqual(walk_read(str(number)), (number,))
            self.assertEqual(walk_read("1 " + str(number)), (1, number))
        for number in list(range(24, 130)) + [230, 999, 1000, 10 ** 30]:
            self.assert_refused(walk_read, str(number))
            self.assert_refused(walk_read, "1 " + str(number))
            self.assert_refused(walk_read, str(number) + " 1")

    def test_sixty_and_sixty_one_numbers(self):
        self.assertEqual(walk_read(" ".join(["7"] * 59)), (7,) * 59)
        self.assertEqual(walk_read(" ".join(["7"] * 60)), (7,) * 60)
        self.assertEqual(walk_read(" ".join(["23"] * 60)), (23,) * 60)
        for many in (61, 62, 100, 999):
            self.assert_refused(walk_read, " ".join(["7"] * many))

    def test_texts_of_few_signs(self):
        numbers = {str(number) for number in range(24)}
        for many in range(6):
            for signs in product("012 ", repeat=many):
                text = "".join(signs)
                if set(text.split(" ")) <= numbers:
                    self.assertEqual(walk_read(text), tuple(map(int, text.split(" "))))
                else:
                    self.assert_refused(walk_read, text)

    def test_a_needless_0_ahead(self):
        for text in ("00", "01", "1 02", "007", "1 00", "012"):
            self.assert_refused(walk_read, text)

    def test_signs_ahead_of_a_number(self):
        for text in ("+1", "-1", "-0", "1 +2", "1 -2", "1.", "1.0", "1_0", "0x1", "1e1", "- 1"):
            self.assert_refused(walk_read, text)

    def test_blanks(self):
        for text in (" ", "  ", " 1", "1 ", "1  2", " 1 2", "1 2 ", " none", "none ", "1\t2", "1\n", "\n1", "1\n2",
                     "none\n"):
            self.assert_refused(walk_read, text)

    def test_other_words(self):
        for text in ("", "None", "NONE", "no", "non", "nonee", "none none", "none 1", "1 none", "/", "1/2", "0 1/1 0",
                     "1,2", "(1, 2)", "()", "a", "1 a", "~"):
            self.assert_refused(walk_read, text)

    def test_a_sign_otherwise(self):
        numbers = {str(number) for number in range(24)}
        for text in ("none", "1 23 0", "10"):
            for other in texts_otherwise(text):
                if set(other.split(" ")) <= numbers:
                    self.assertEqual(walk_text(walk_read(other)), other)
                else:
                    self.assert_refused(walk_read, other)

    def test_figures_of_other_scripts(self):
        for text in ("\u0660", "\u00b2", "1 \u0661", "\uff11", "1\u00a02"):
            self.assert_refused(walk_read, text)

    def test_long_texts(self):
        for text in ("0" * 2000, "1 " * 1000, " 1" * 1000, "9" * 2000, " " * 2000, "none" * 500, "1" * 5000):
            self.assert_refused(walk_read, text)

    def test_what_is_no_text(self):
        for thing in no_texts():
            self.assert_refused(walk_read, thing)
