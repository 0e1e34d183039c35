"""mark, read: the four kinds of marks and the numbers that they stand for."""

import itertools
import unittest

from calling import HIGHEST, LETTERS, NUMBERS, ROMAN, ask, codes, last, mark, read, signs
from test_book import FIT_SIGNS, UNFIT_SIGNS

EVERY_NUMBER = range(1, 1000)
EIGHT = signs(42, 8224, 8225, 167, 182, 35, 43, 1)
ONES = ["", "i", "ii", "iii", "iv", "v", "vi", "vii", "viii", "ix"]
TENS = ["", "x", "xx", "xxx", "xl", "l", "lx", "lxx", "lxxx", "xc"]
HUNDREDS = ["", "c", "cc", "ccc", "cd", "d", "dc", "dcc", "dccc", "cm"]


def in_turn(*calls):
    """Make calls that keep nothing, at most 100 in one list."""
    told = []
    for at in range(0, len(calls), 100):
        told.extend(ask(*calls[at:at + 100]))
    return told


def roman(number):
    return HUNDREDS[number // 100] + TENS[number // 10 % 10] + ONES[number % 10]


def letter_marks():
    """Every row of letters, the shorter ones first, as many as there are numbers."""
    alphabet = "abcdefghijklmnopqrstuvwxyz"
    rows = ["".join(row) for size in (1, 2, 3) for row in itertools.product(alphabet, repeat=size)]
    return rows[:999]


def sign_marks(own):
    """Each sign, then each of them twice, and so on."""
    rows = [[sign] * times for times in EVERY_NUMBER for sign in own]
    return rows[:999]


def shown(row):
    return [len(row)] + row


class TheMarkOfANumber(unittest.TestCase):

    def assert_marks(self, kind, rows):
        told = in_turn(*[mark(number, kind) for number in EVERY_NUMBER])
        self.assertEqual(told, [shown(row) for row in rows])

    def test_digits(self):
        self.assertEqual(last(mark(1, NUMBERS)), [1, 49])
        self.assertEqual(last(mark(10, NUMBERS)), [2, 49, 48])
        self.assertEqual(last(mark(999, NUMBERS)), [3, 57, 57, 57])
        self.assert_marks(NUMBERS, [codes(str(number)) for number in EVERY_NUMBER])

    def test_letters(self):
        for number, text in [(1, "a"), (2, "b"), (25, "y"), (26, "z"), (27, "aa"), (28, "ab"),
                             (52, "az"), (53, "ba"), (78, "bz"), (79, "ca"), (676, "yz"),
                             (677, "za"), (702, "zz"), (703, "aaa"), (704, "aab"),
                             (728, "aaz"), (729, "aba"), (999, "alk")]:
            self.assertEqual(last(mark(number, LETTERS)), shown(codes(text)), number)
        self.assert_marks(LETTERS, [codes(text) for text in letter_marks()])

    def test_each_digit_of_each_place_in_roman_numerals(self):
        for digit in range(1, 10):
            for place, texts in ((1, ONES), (10, TENS), (100, HUNDREDS)):
                self.assertEqual(last(mark(digit * place, ROMAN)), shown(codes(texts[digit])))

    def test_roman_numerals(self):
        self.assertEqual(last(mark(444, ROMAN)), shown(codes("cdxliv")))
        self.assertEqual(last(mark(888, ROMAN)), shown(codes("dccclxxxviii")))
        self.assertEqual(last(mark(999, ROMAN)), shown(codes("cmxcix")))
        self.assert_marks(ROMAN, [codes(roman(number)) for number in EVERY_NUMBER])

    def test_one_sign(self):
        for number in (1, 2, 3, 200, 201, 998, 999):
            self.assertEqual(last(mark(number, signs(42))), shown([42] * number))

    def test_several_signs(self):
        three = signs(42, 8224, 8225)
        for number, row in [(1, [42]), (2, [8224]), (3, [8225]), (4, [42] * 2), (5, [8224] * 2),
                            (6, [8225] * 2), (7, [42] * 3), (9, [8225] * 3), (999, [8225] * 333)]:
            self.assertEqual(last(mark(number, three)), shown(row), number)

    def test_around_as_many_as_there_are_signs(self):
        for size in range(1, 9):
            own = EIGHT[2:2 + size]
            kind = signs(*own)
            self.assertEqual(last(mark(size, kind)), [1, own[-1]])
            self.assertEqual(last(mark(size + 1, kind)), [2, own[0], own[0]])
            self.assertEqual(last(mark(2 * size, kind)), [2, own[-1], own[-1]])
            self.assertEqual(last(mark(2 * size + 1, kind)), [3] + [own[0]] * 3)

    def test_every_mark_of_signs(self):
        for size in range(1, 9):
            own = EIGHT[2:2 + size]
            self.assert_marks(signs(*own), sign_marks(own))

    def test_numbers_that_have_none(self):
        for kind in [NUMBERS, LETTERS, ROMAN] + FIT_SIGNS:
            for number in (0, 1000, 1001, 65536, HIGHEST):
                self.assertEqual(last(mark(number, kind)), [-1])

    def test_signs_that_are_refused(self):
        for kind in UNFIT_SIGNS:
            for number in (0, 1, 999, 1000):
                self.assertEqual(last(mark(number, kind)), [-1], kind)

    def test_signs_that_are_taken(self):
        for kind in FIT_SIGNS:
            self.assertEqual(last(mark(1, kind)), [1, kind[2]], kind)


class TheNumberOfAMark(unittest.TestCase):

    def assert_read(self, kind, rows):
        fit = [(number, row) for number, row in zip(EVERY_NUMBER, rows) if len(row) <= 200]
        told = in_turn(*[read(kind, row) for number, row in fit])
        self.assertEqual(told, [[number] for number, row in fit])

    def assert_no_mark(self, kind, *rows):
        for row in rows:
            self.assertEqual(last(read(kind, row)), [-6], (kind, row))

    def test_every_number_is_read_again(self):
        self.assert_read(NUMBERS, [codes(str(number)) for number in EVERY_NUMBER])
        self.assert_read(LETTERS, [codes(text) for text in letter_marks()])
        self.assert_read(ROMAN, [codes(roman(number)) for number in EVERY_NUMBER])
        for size in range(1, 9):
            own = EIGHT[2:2 + size]
            self.assert_read(signs(*own), sign_marks(own))

    def test_every_mark_that_is_told_is_read_again(self):
        for kind in [NUMBERS, LETTERS, ROMAN] + FIT_SIGNS:
            marks = in_turn(*[mark(number, kind) for number in EVERY_NUMBER])
            self.assert_read(kind, [told[1:] for told in marks])

    def test_an_empty_mark(self):
        for kind in [NUMBERS, LETTERS, ROMAN] + FIT_SIGNS:
            self.assert_no_mark(kind, [])

    def test_digits_that_are_none(self):
        self.assert_no_mark(NUMBERS, *[codes(text) for text in (
            "0", "00", "01", "007", "0999", "1000", "1001", "9999", "0" * 200, "9" * 200,
            "1a", "a", "/", ":", "1:", ":1", " 1", "1 ", "-1", "+1", "1_0", "i", "*")])
        self.assert_no_mark(NUMBERS, [1], [0], [9], [HIGHEST], [HIGHEST] * 200, [1633], [49, 1633],
                            [65297], [178])

    def test_rows_worth_a_number_that_are_none(self):
        # Place by place "1:" is worth as much as "20", and yet it is no mark.
        for first in range(0, 256):
            for second in (0, 38, 47, 58, 96, 97, 122, 123, 255):
                row = [first, second]
                self.assert_no_mark(NUMBERS, row)
                self.assert_no_mark(ROMAN, row)

    def test_letters_that_are_none(self):
        self.assert_no_mark(LETTERS, *[codes(text) for text in (
            "A", "Z", "AB", "aB", "Ab", "`", "{", "a`", "a{", "`a", "{a", "alm", "all", "alz",
            "ama", "baa", "zzz", "aaaa", "a" * 200, "z" * 200, "a ", " a", "1", "a1", "*")])
        self.assert_no_mark(LETTERS, [1], [26], [0], [HIGHEST], [HIGHEST] * 200, [224])

    def test_every_row_of_three_letters_past_999(self):
        self.assertEqual(last(read(LETTERS, codes("alk"))), [999])
        alphabet = range(97, 123)
        rows = [list(row) for row in itertools.product(alphabet, repeat=3)][297::37]
        told = in_turn(*[read(LETTERS, row) for row in rows])
        self.assertEqual(told, [[-6]] * len(rows))

    def test_roman_numerals_that_are_none(self):
        self.assert_no_mark(ROMAN, *[codes(text) for text in (
            "I", "IV", "Iv", "iV", "X", "iiii", "iiiii", "vv", "xxxx", "ll", "cccc", "dd", "ix" * 2,
            "viv", "vix", "iix", "iiv", "ivi", "ixi", "ixv", "xcx", "xcl", "xlx", "cdc", "cmc", "cmd",
            "cmcd", "ic", "il", "id", "im", "xd", "xm", "vx", "vl", "lc", "dm", "m", "mi", "mm",
            "iv" * 2, "ixix", "xlxl", "xcxc", "cdcd", "cmcm", "lxl", "dcd", "ivx", "i ", " i",
            "i" * 200, "m" * 200, "j", "y", "a", "1", "*", "iy", "yi", "xiy")])
        self.assert_no_mark(ROMAN, [1], [0], [HIGHEST], [HIGHEST] * 200, [8560])

    def test_every_short_row_of_roman_signs(self):
        numbers = {roman(number): number for number in EVERY_NUMBER}
        rows = ["".join(row) for size in (1, 2, 3) for row in itertools.product("ivxlcdm", repeat=size)]
        told = in_turn(*[read(ROMAN, codes(row)) for row in rows])
        self.assertEqual(told, [[numbers.get(row, -6)] for row in rows])

    def test_signs_that_are_none(self):
        three = signs(42, 8224, 8225)
        self.assert_no_mark(three, [43], [42, 8224], [42, 42, 8225], [8224, 42, 42], [42, 43],
                            [43, 42], [1], [2], [3], [0], [HIGHEST], codes("a"), codes("1"))

    def test_a_row_of_signs_that_is_too_long(self):
        for size in range(5, 9):
            own = EIGHT[2:2 + size]
            for place in range(size):
                most = (999 - place - 1) // size + 1
                number = (most - 1) * size + place + 1
                kind = signs(*own)
                self.assertEqual(last(read(kind, [own[place]] * most)), [number])
                if most < 200:
                    self.assert_no_mark(kind, [own[place]] * (most + 1))
                    self.assert_no_mark(kind, [own[place]] * 200)

    def test_two_hundred_signs(self):
        self.assertEqual(last(read(signs(42), [42] * 200)), [200])
        self.assertEqual(last(read(signs(42, 43), [43] * 200)), [400])
        self.assertEqual(last(read(signs(1, 2, 3, 4, 5), [4] * 200)), [999])
        self.assertEqual(last(read(signs(1, 2, 3, 4, 5), [5] * 200)), [-6])

    def test_signs_that_look_like_another_kind(self):
        self.assertEqual(last(read(signs(49, 48), [48])), [2])
        self.assertEqual(last(read(signs(49, 48), [49, 48])), [-6])
        self.assertEqual(last(read(signs(97, 105), [105, 105])), [4])
        self.assertEqual(last(read(signs(3, 1), [3, 3])), [3])

    def test_the_kind_ends_by_its_own_form(self):
        self.assertEqual(last(read(NUMBERS, [51])), [3])
        self.assertEqual(last([5, 4, 3, 1, 42, 42]), [1])
        self.assertEqual(last([5, 5, 3, 1, 42, 42, 42]), [2])
        self.assertEqual(last([5, 5, 3, 2, 42, 43, 43]), [2])
        self.assertEqual(last([5, 4, 3, 2, 42, 43]), [-6])

    def test_signs_that_are_refused(self):
        for kind in UNFIT_SIGNS:
            for row in ([], [42], [42, 42], [42, 43], [7] * 200):
                self.assertEqual(last(read(kind, row)), [-1], (kind, row))

    def test_reading_changes_no_book(self):
        told = ask(read(NUMBERS, [49]), mark(3, ROMAN), read(NUMBERS, [48]), mark(0, ROMAN), [6],
                   [2, 0, 0], [3, 1, 0])
        self.assertEqual(told[4:], [[0], [-1], [0]])


if __name__ == "__main__":
    unittest.main()
