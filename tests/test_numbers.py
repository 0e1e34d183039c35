"""numbers: which notes are read where, their numbers and their marks."""

import sys
import unittest

from calling import (BOOK_END, CHAPTER_END, LETTERS, NUMBERS, ROMAN, WITH_CHAPTER, WITH_PAGE, ask,
                     call, chapter, codes, last, note, numbers, page, read_in, series, signs)


def rows(*calls):
    """Tell of each note that is read: it, its chapter, its page, its number, its mark."""
    return read_in(last(*calls, numbers()))


def short(*calls):
    """Tell of each note that is read: it, its chapter, its page, its number."""
    return [row[:4] for row in rows(*calls)]


def order(*calls):
    return [row[0] for row in rows(*calls)]


def counts(*calls):
    return [row[3] for row in rows(*calls)]


def frames():
    """How many calls within one another there are now."""
    frame = sys._getframe()
    depth = 0
    while frame is not None:
        depth += 1
        frame = frame.f_back
    return depth


class NotesRead(unittest.TestCase):

    def test_a_book_without_notes(self):
        self.assertEqual(last(numbers()), [0])
        self.assertEqual(last(series(), series(ROMAN, WITH_PAGE), numbers()), [0])
        self.assertEqual(last(page(), chapter(), page(), numbers()), [0])

    def test_the_answer_has_a_count_and_then_of_each_note_five_numbers_and_its_mark(self):
        self.assertEqual(
            last(series(), series(signs(42)), note(0), note(1), note(1), call(0), page(), call(1),
                 chapter(), call(2), numbers()),
            [3, 0, 0, 1, 1, 1, 49, 1, 0, 2, 1, 1, 42, 2, 1, 2, 2, 2, 42, 42])

    def test_notes_are_told_in_the_order_of_reading(self):
        self.assertEqual(order(series(), *[note(0)] * 4, call(2), call(0), call(3), call(1)),
                         [2, 0, 3, 1])

    def test_what_a_note_calls_is_read_behind_it(self):
        self.assertEqual(order(series(), note(0), note(0, 0), call(1)), [1, 0])

    def test_what_a_note_calls_is_read_in_order(self):
        self.assertEqual(order(series(), note(0, 3, 1, 2), *[note(0)] * 3, call(0)), [0, 3, 1, 2])
        self.assertEqual(order(series(), note(0, *range(8, 0, -1)), *[note(0)] * 8, call(0)),
                         [0, 8, 7, 6, 5, 4, 3, 2, 1])

    def test_what_that_one_calls_is_read_ahead_of_the_one_behind_it(self):
        self.assertEqual(
            order(series(), note(0, 1, 4), note(0, 2, 3), note(0), note(0), note(0, 5), note(0),
                  call(0)),
            [0, 1, 2, 3, 4, 5])
        self.assertEqual(
            order(series(), note(0, 4, 1), note(0), note(0, 3, 5), note(0), note(0, 2), note(0),
                  call(0)),
            [0, 4, 2, 3, 5, 1])

    def test_what_a_note_calls_is_read_ahead_of_what_the_text_calls_then(self):
        self.assertEqual(order(series(), note(0), note(0, 3), note(0), note(0), call(1), call(0),
                               call(2)),
                         [1, 3, 0, 2])

    def test_notes_nested_thirty_deep(self):
        row = [note(0, number + 1) for number in range(29)] + [note(0)]
        self.assertEqual(short(series(), *row, page(), call(0)),
                         [(number, 0, 2, number + 1) for number in range(30)])
        back = [note(0)] + [note(0, number) for number in range(29)]
        self.assertEqual(short(series(), *back, chapter(), call(29)),
                         [(29 - number, 1, 1, number + 1) for number in range(30)])

    def test_notes_nested_thirty_deep_are_gone_through_by_loops(self):
        row = [note(0, number + 1) for number in range(29)] + [note(0)]
        calls = [series(), *row, call(0), numbers()]
        before = sys.getrecursionlimit()
        sys.setrecursionlimit(frames() + 20)
        try:
            told = ask(*calls)
        finally:
            sys.setrecursionlimit(before)
        self.assertEqual(told[-1][0], 30)


class ChaptersAndPages(unittest.TestCase):

    def test_the_first_page_is_1_and_ahead_of_the_first_chapter_is_chapter_0(self):
        self.assertEqual(short(series(), note(0), call(0)), [(0, 0, 1, 1)])

    def test_a_page_that_begins_between_two_notes(self):
        self.assertEqual(short(series(), note(0), note(0), call(0), page(), call(1)),
                         [(0, 0, 1, 1), (1, 0, 2, 2)])

    def test_a_chapter_that_begins_between_two_notes(self):
        self.assertEqual(short(series(), note(0), note(0), call(0), chapter(), call(1)),
                         [(0, 0, 1, 1), (1, 1, 1, 2)])

    def test_pages_and_chapters_go_on_each_by_itself(self):
        self.assertEqual(
            short(series(), *[note(0)] * 4, page(), chapter(), call(0), chapter(), call(1), page(),
                  page(), call(2), chapter(), page(), call(3), page(), chapter()),
            [(0, 1, 2, 1), (1, 2, 2, 2), (2, 2, 4, 3), (3, 3, 5, 4)])

    def test_notes_within_a_note_are_where_the_text_is_then(self):
        self.assertEqual(
            short(series(), note(0, 1), note(0, 2), note(0), note(0), page(), call(0), chapter(),
                  page(), call(3)),
            [(0, 0, 2, 1), (1, 0, 2, 2), (2, 0, 2, 3), (3, 1, 3, 4)])


class NumbersOfNotes(unittest.TestCase):

    BOOK = [*[note(0)] * 7, call(0), call(1), page(), call(2), chapter(), call(3), page(), call(4),
            chapter(), call(5), call(6)]

    def test_anew_never(self):
        self.assertEqual(counts(series(), *self.BOOK), [1, 2, 3, 4, 5, 6, 7])

    def test_anew_with_a_chapter(self):
        self.assertEqual(counts(series(NUMBERS, WITH_CHAPTER), *self.BOOK), [1, 2, 3, 1, 2, 1, 2])

    def test_anew_with_a_page(self):
        self.assertEqual(counts(series(NUMBERS, WITH_PAGE), *self.BOOK), [1, 2, 1, 2, 1, 2, 3])

    def test_where_notes_stand_makes_no_number(self):
        for stand in (CHAPTER_END, BOOK_END):
            for anew in range(3):
                self.assertEqual(counts(series(NUMBERS, anew, stand), *self.BOOK),
                                 counts(series(NUMBERS, anew), *self.BOOK))

    def test_each_series_counts_by_itself(self):
        self.assertEqual(
            counts(series(), series(), note(0), note(1), note(1), note(0), note(1), call(0),
                   call(1), call(2), call(3), call(4)),
            [1, 1, 2, 2, 3])

    def test_each_series_begins_anew_by_itself(self):
        three = [series(NUMBERS, anew) for anew in range(3)]
        self.assertEqual(
            counts(*three, *[note(number % 3) for number in range(9)], call(0), call(1), call(2),
                   chapter(), call(3), call(4), call(5), page(), call(6), call(7), call(8)),
            [1, 1, 1, 2, 1, 2, 3, 2, 1])

    def test_a_note_counts_as_it_is_read_not_as_it_was_told(self):
        self.assertEqual(short(series(), note(0), note(0), note(0), call(2), call(0), call(1)),
                         [(2, 0, 1, 1), (0, 0, 1, 2), (1, 0, 1, 3)])

    def test_a_note_counts_ahead_of_those_that_it_calls(self):
        self.assertEqual(
            short(series(), note(0, 2, 1), note(0), note(0, 3), note(0), note(0), call(0), call(4)),
            [(0, 0, 1, 1), (2, 0, 1, 2), (3, 0, 1, 3), (1, 0, 1, 4), (4, 0, 1, 5)])

    def test_a_note_of_another_series_within_a_note(self):
        self.assertEqual(
            counts(series(), series(LETTERS), note(0, 1, 2), note(1), note(0), note(0), call(0),
                   call(3)),
            [1, 1, 2, 3])

    def test_a_page_without_notes_and_a_chapter_without_notes(self):
        self.assertEqual(
            counts(series(NUMBERS, WITH_PAGE), series(NUMBERS, WITH_CHAPTER), note(0), note(1),
                   note(0), note(1), call(0), call(1), page(), page(), chapter(), chapter(),
                   call(2), call(3)),
            [1, 1, 1, 1])

    def test_a_chapter_is_no_page_and_a_page_no_chapter(self):
        self.assertEqual(counts(series(NUMBERS, WITH_PAGE), note(0), note(0), call(0), chapter(),
                                call(1)), [1, 2])
        self.assertEqual(counts(series(NUMBERS, WITH_CHAPTER), note(0), note(0), call(0), page(),
                                call(1)), [1, 2])


class MarksOfNotes(unittest.TestCase):

    def marks(self, kind, size):
        told = rows(series(kind), *[note(0)] * size, *[call(number) for number in range(size)])
        return [row[4] for row in told]

    def test_digits(self):
        self.assertEqual(self.marks(NUMBERS, 30), [codes(str(number)) for number in range(1, 31)])

    def test_letters(self):
        texts = list("abcdefghijklmnopqrstuvwxyz") + ["aa", "ab", "ac", "ad"]
        self.assertEqual(self.marks(LETTERS, 30), [codes(text) for text in texts])

    def test_roman_numerals(self):
        texts = "i ii iii iv v vi vii viii ix x xi xii xiii xiv xv xvi xvii xviii xix xx".split()
        self.assertEqual(self.marks(ROMAN, 20), [codes(text) for text in texts])

    def test_signs(self):
        self.assertEqual(self.marks(signs(42, 8224), 5),
                         [[42], [8224], [42, 42], [8224, 8224], [42, 42, 42]])
        self.assertEqual(self.marks(signs(65535), 30), [[65535] * size for size in range(1, 31)])

    def test_each_series_has_its_own_kind(self):
        told = rows(series(ROMAN), series(signs(42)), series(NUMBERS), series(LETTERS),
                    *[note(number % 4) for number in range(8)], *[call(number) for number in range(8)])
        self.assertEqual([row[4] for row in told],
                         [codes(text) for text in ("i", "*", "1", "a", "ii", "**", "2", "b")])

    def test_the_mark_is_that_of_the_number(self):
        told = rows(series(LETTERS, WITH_PAGE), *[note(0)] * 4, call(0), call(1), page(), call(2),
                    call(3))
        self.assertEqual([row[4] for row in told], [codes(text) for text in ("a", "b", "a", "b")])


class NothingIsChanged(unittest.TestCase):

    def test_the_same_is_told_twice(self):
        told = ask(series(), note(0, 1), note(0), page(), call(0), numbers(), numbers())
        self.assertEqual(told[-1], told[-2])

    def test_the_book_goes_on(self):
        told = ask(series(), note(0, 1), note(0), call(0), numbers(), page(), note(0), call(2),
                   numbers(), series())
        self.assertEqual(read_in(told[4])[-1], (1, 0, 1, 2, [50]))
        self.assertEqual(told[5:8], [[1], [2], [2]])
        self.assertEqual(read_in(told[8])[-1], (2, 0, 2, 3, [51]))
        self.assertEqual(told[9], [1])


if __name__ == "__main__":
    unittest.main()
