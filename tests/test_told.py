"""told: a note told from another note's place."""

import unittest

from calling import (BOOK_END, CHAPTER_END, FOOT, HIGHEST, LETTERS, NUMBERS, ROMAN, WITH_CHAPTER,
                     WITH_PAGE, ask, call, chapter, codes, last, note, numbers, page, series, signs,
                     told_from)


def told(here, number, *calls):
    """Tell the page, the chapter and the mark's text that are told."""
    answer = last(*calls, told_from(here, number))
    if len(answer) != 3 + answer[2]:
        raise AssertionError("the count doesn't fit the mark")
    return answer[0], answer[1], "".join([chr(sign) for sign in answer[3:]])


def in_three_places(own, other=series()):
    """Notes 0, 2 and 4 of a series, each with a note of another one behind it."""
    return [own, other, note(0), note(1), note(0), note(1), note(0), note(1),
            call(0), call(1), page(), call(2), call(3), chapter(), call(4), call(5)]


class Told(unittest.TestCase):

    def test_the_answer_has_page_chapter_and_mark(self):
        self.assertEqual(
            last(series(signs(42, 43), WITH_CHAPTER), *[note(0)] * 4, call(0), page(), chapter(),
                 call(1), call(2), call(3), told_from(0, 3)),
            [2, 1, 2, 42, 42])
        self.assertEqual(last(series(), note(0), call(0), told_from(0, 0)), [0, 0, 1, 49])

    def test_from_its_own_place(self):
        for anew in range(3):
            book = in_three_places(series(LETTERS, anew))
            marks = [("a", "b", "c"), ("a", "b", "a"), ("a", "a", "b")][anew]
            for number, mark in zip((0, 2, 4), marks):
                self.assertEqual(told(number, number, *book), (0, 0, mark))

    def test_its_page_if_that_is_not_the_others(self):
        book = in_three_places(series(LETTERS))
        self.assertEqual(told(0, 2, *book), (2, 0, "b"))
        self.assertEqual(told(2, 0, *book), (1, 0, "a"))
        self.assertEqual(told(1, 0, *book), (0, 0, "a"))
        self.assertEqual(told(3, 4, *book), (0, 0, "c"))
        self.assertEqual(told(5, 0, *book), (1, 0, "a"))

    def test_its_page_whatever_its_series_begins_anew_with(self):
        for anew in range(3):
            for other in range(3):
                book = in_three_places(series(NUMBERS, anew), series(NUMBERS, other))
                self.assertEqual(told(1, 2, *book)[0], 2)
                self.assertEqual(told(3, 0, *book)[0], 1)
                self.assertEqual(told(3, 4, *book)[0], 0)

    def test_its_chapter_if_its_series_begins_anew_with_chapters(self):
        book = in_three_places(series(LETTERS, WITH_CHAPTER))
        self.assertEqual(told(0, 4, *book), (2, 1, "a"))
        self.assertEqual(told(2, 4, *book), (0, 1, "a"))
        self.assertEqual(told(3, 4, *book), (0, 1, "a"))
        self.assertEqual(told(5, 4, *book), (0, 0, "a"))

    def test_no_chapter_if_its_series_begins_anew_otherwise(self):
        for anew, mark in ((0, "c"), (WITH_PAGE, "b")):
            # That the other one's series begins anew with chapters is no matter.
            book = in_three_places(series(LETTERS, anew), series(NUMBERS, WITH_CHAPTER))
            self.assertEqual(told(0, 4, *book), (2, 0, mark))
            self.assertEqual(told(3, 4, *book), (0, 0, mark))

    def test_the_others_series_is_no_matter(self):
        for anew in range(3):
            book = in_three_places(series(LETTERS, WITH_CHAPTER), series(NUMBERS, anew))
            self.assertEqual(told(3, 4, *book), (0, 1, "a"))
            self.assertEqual(told(1, 4, *book), (2, 1, "a"))

    def test_chapter_0_is_told_as_0(self):
        book = in_three_places(series(LETTERS, WITH_CHAPTER))
        self.assertEqual(told(4, 0, *book), (1, 0, "a"))
        self.assertEqual(told(4, 2, *book), (0, 0, "b"))

    def test_its_chapter_though_the_page_is_the_same(self):
        book = [series(ROMAN, WITH_CHAPTER), *[note(0)] * 3, chapter(), call(0), chapter(), call(1),
                call(2)]
        self.assertEqual(told(0, 2, *book), (0, 2, "ii"))
        self.assertEqual(told(2, 0, *book), (0, 1, "i"))
        self.assertEqual(told(1, 2, *book), (0, 0, "ii"))

    def test_its_page_though_the_chapter_is_the_same(self):
        book = [series(ROMAN, WITH_CHAPTER), *[note(0)] * 2, chapter(), call(0), page(), call(1)]
        self.assertEqual(told(0, 1, *book), (2, 0, "ii"))
        self.assertEqual(told(1, 0, *book), (1, 0, "i"))

    def test_a_note_within_a_note_is_where_the_text_is(self):
        book = [series(NUMBERS, WITH_CHAPTER), note(0, 1), note(0), note(0), call(2), page(),
                chapter(), call(0)]
        self.assertEqual(told(0, 1, *book), (0, 0, "2"))
        self.assertEqual(told(2, 1, *book), (2, 1, "2"))

    def test_where_its_series_stands_is_no_matter(self):
        for stand in (FOOT, CHAPTER_END, BOOK_END):
            book = in_three_places(series(LETTERS, WITH_CHAPTER, stand))
            self.assertEqual(told(1, 4, *book), (2, 1, "a"))
            self.assertEqual(told(5, 4, *book), (0, 0, "a"))

    def test_a_mark_of_each_kind(self):
        for kind, mark in ((NUMBERS, "30"), (LETTERS, "ad"), (ROMAN, "xxx"), (signs(42), "*" * 30),
                           (signs(42, 43), "+" * 15)):
            book = [series(kind), *[note(0)] * 30, *[call(number) for number in range(30)]]
            self.assertEqual(last(*book, told_from(0, 29)), [0, 0, len(mark)] + codes(mark))

    def test_a_note_that_is_not_there(self):
        book = in_three_places(series())
        for number in (6, 7, 29, 30, HIGHEST):
            self.assertEqual(last(*book, told_from(0, number)), [-2])
            self.assertEqual(last(*book, told_from(number, 0)), [-2])
            self.assertEqual(last(*book, told_from(number, number)), [-2])
        self.assertEqual(last(*book, told_from(5, 5)), [0, 0, 1, 51])
        self.assertEqual(last(told_from(0, 0)), [-2])

    def test_asking_changes_nothing(self):
        book = in_three_places(series(LETTERS, WITH_CHAPTER))
        answers = ask(*book, numbers(), told_from(0, 4), told_from(6, 0), told_from(0, 4), numbers())
        self.assertEqual(answers[-4:-1], [[2, 1, 1, 97], [-2], [2, 1, 1, 97]])
        self.assertEqual(answers[-1], answers[-5])


if __name__ == "__main__":
    unittest.main()
