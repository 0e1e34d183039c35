"""alike: which notes on one page have marks that are alike."""

import unittest

from calling import (BOOK_END, CHAPTER_END, FOOT, LETTERS, NUMBERS, ROMAN, WITH_CHAPTER, WITH_PAGE,
                     alike, ask, call, chapter, last, note, numbers, page, series, signs)


def pairs(*calls):
    told = last(*calls, alike())
    if len(told) != 1 + 2 * told[0]:
        raise AssertionError("the count doesn't fit the pairs")
    return list(zip(told[1::2], told[2::2]))


def each_called(*notes):
    return [call(number) for number in notes]


class Alike(unittest.TestCase):

    def test_a_count_and_pairs(self):
        self.assertEqual(last(series(), series(), note(0), note(1), note(0), note(1),
                              *each_called(0, 1, 2, 3), alike()),
                         [2, 0, 1, 2, 3])

    def test_no_pairs(self):
        self.assertEqual(last(alike()), [0])
        self.assertEqual(last(series(), page(), chapter(), alike()), [0])
        self.assertEqual(last(series(), note(0), call(0), alike()), [0])
        self.assertEqual(pairs(series(), *[note(0)] * 3, *each_called(0, 1, 2)), [])
        self.assertEqual(pairs(series(), series(LETTERS), note(0), note(1), *each_called(0, 1)), [])

    def test_two_series(self):
        self.assertEqual(pairs(series(), series(), note(0), note(1), *each_called(0, 1)), [(0, 1)])

    def test_on_one_page_alone(self):
        two = [series(), series(), note(0), note(1)]
        self.assertEqual(pairs(*two, call(0), page(), call(1)), [])
        self.assertEqual(pairs(*two, page(), call(0), call(1)), [(0, 1)])
        self.assertEqual(pairs(*two, page(), call(0), page(), call(1)), [])
        self.assertEqual(pairs(*two, call(0), chapter(), call(1)), [(0, 1)])

    def test_a_series_anew_with_a_page_is_alike_on_no_page(self):
        self.assertEqual(pairs(series(NUMBERS, WITH_PAGE), *[note(0)] * 4, call(0), call(1), page(),
                               call(2), chapter(), call(3)), [])

    def test_a_series_anew_with_a_chapter_and_two_chapters_on_one_page(self):
        book = [series(NUMBERS, WITH_CHAPTER), *[note(0)] * 4]
        self.assertEqual(pairs(*book, call(0), call(1), chapter(), call(2), call(3)),
                         [(0, 2), (1, 3)])
        self.assertEqual(pairs(*book, call(0), call(1), page(), chapter(), call(2), call(3)), [])
        self.assertEqual(pairs(*book, call(0), page(), call(1), chapter(), call(2), call(3)),
                         [(1, 3)])

    def test_three_notes_that_are_alike_are_three_pairs(self):
        self.assertEqual(pairs(*[series()] * 3, note(0), note(1), note(2), *each_called(0, 1, 2)),
                         [(0, 1), (0, 2), (1, 2)])
        self.assertEqual(pairs(series(NUMBERS, WITH_CHAPTER), *[note(0)] * 3, call(2), chapter(),
                               call(0), chapter(), call(1)),
                         [(2, 0), (2, 1), (0, 1)])

    def test_four_notes_that_are_alike_are_six_pairs(self):
        self.assertEqual(pairs(*[series()] * 4, *[note(number) for number in range(4)],
                               *each_called(3, 1, 0, 2)),
                         [(3, 1), (3, 0), (3, 2), (1, 0), (1, 2), (0, 2)])

    def test_the_one_that_is_read_first_comes_first(self):
        two = [series(), series()]
        self.assertEqual(pairs(*two, note(0), note(1), *each_called(1, 0)), [(1, 0)])
        self.assertEqual(pairs(*two, note(1, 1), note(0), call(0)), [(0, 1)])
        self.assertEqual(pairs(*two, note(1), note(0, 0), call(1)), [(1, 0)])

    def test_by_the_one_that_is_read_first_then_by_the_other(self):
        three = [*[series()] * 3, *[note(number // 2) for number in range(6)]]
        self.assertEqual(pairs(*three, *each_called(4, 0, 5, 2, 1, 3)),
                         [(4, 0), (4, 2), (0, 2), (5, 1), (5, 3), (1, 3)])

    def test_the_order_is_not_that_of_the_others(self):
        # The pair whose other note is read first is told last.
        self.assertEqual(pairs(series(), series(), *[note(0)] * 2, *[note(1)] * 2,
                               *each_called(0, 1, 2, 3)),
                         [(0, 2), (1, 3)])
        self.assertEqual(pairs(series(NUMBERS), series(signs(50, 49)), *[note(0)] * 2,
                               *[note(1)] * 2, *each_called(0, 1, 2, 3)),
                         [(0, 3), (1, 2)])

    def test_page_by_page(self):
        self.assertEqual(pairs(series(NUMBERS, WITH_PAGE), series(NUMBERS, WITH_PAGE),
                               *[note(0)] * 2, *[note(1)] * 2, call(3), call(1), page(), call(0),
                               call(2)),
                         [(3, 1), (0, 2)])

    def test_two_kinds_that_give_the_same_signs(self):
        one_each = [note(0), note(1), *each_called(0, 1)]
        self.assertEqual(pairs(series(NUMBERS), series(signs(49)), *one_each), [(0, 1)])
        self.assertEqual(pairs(series(signs(97, 98)), series(LETTERS), *one_each), [(0, 1)])
        self.assertEqual(pairs(series(ROMAN), series(signs(105)), *one_each), [(0, 1)])
        self.assertEqual(pairs(series(signs(42)), series(signs(42, 43)), *one_each), [(0, 1)])
        self.assertEqual(pairs(series(signs(43)), series(signs(42, 43)), *one_each), [])
        self.assertEqual(pairs(series(LETTERS), series(ROMAN), *one_each), [])

    def test_marks_are_alike_though_the_numbers_are_not(self):
        # The ninth letter is i, and so is the first Roman numeral.
        self.assertEqual(pairs(series(LETTERS), series(ROMAN), *[note(0)] * 9, note(1),
                               *each_called(9, *range(9))),
                         [(9, 8)])

    def test_marks_of_which_one_begins_the_other_are_not_alike(self):
        self.assertEqual(pairs(series(signs(42)), *[note(0)] * 3, *each_called(0, 1, 2)), [])
        self.assertEqual(pairs(series(ROMAN), series(signs(105)), *[note(0)] * 3, note(1), note(1),
                               *each_called(0, 1, 2, 3, 4)),
                         [(0, 3), (1, 4)])

    def test_numbers_that_are_the_same_in_other_kinds_are_not_alike(self):
        self.assertEqual(pairs(series(NUMBERS), series(LETTERS), series(ROMAN), series(signs(42)),
                               *[note(number) for number in range(4)], *each_called(0, 1, 2, 3)),
                         [])

    def test_where_notes_stand_makes_no_difference(self):
        self.assertEqual(pairs(series(NUMBERS, 0, FOOT), series(NUMBERS, 0, CHAPTER_END),
                               series(NUMBERS, 0, BOOK_END), note(0), note(1), note(2),
                               *each_called(0, 1, 2)),
                         [(0, 1), (0, 2), (1, 2)])

    def test_asking_changes_nothing(self):
        told = ask(series(), series(), note(0), note(1), *each_called(0, 1), numbers(), alike(),
                   alike(), numbers())
        self.assertEqual(told[7], told[8])
        self.assertEqual(told[6], told[9])


if __name__ == "__main__":
    unittest.main()
