"""foot, chapterend, bookend: which notes stand where."""

import unittest

from calling import (BOOK_END, CHAPTER_END, FOOT, HIGHEST, LETTERS, NUMBERS, ROMAN, WITH_CHAPTER,
                     WITH_PAGE, ask, bookend, call, chapter, chapterend, foot, last, listed, note,
                     page, series)

MIXED = [
    # Two series at each of two places, told in turn.
    series(NUMBERS, 0, FOOT), series(LETTERS, 0, CHAPTER_END), series(ROMAN, 0, FOOT),
    series(NUMBERS, 0, CHAPTER_END),
]


def at_feet(pages, *calls):
    """Tell the notes at the foot of each of these pages, from 1 on."""
    told = ask(*calls, *[foot(number) for number in range(1, pages + 1)])
    return [listed(answer) for answer in told[len(calls):]]


def at_ends(chapters, *calls):
    """Tell the notes at the end of each chapter from 0 on, the last one included."""
    told = ask(*calls, *[chapterend(number) for number in range(chapters + 1)])
    return [listed(answer) for answer in told[len(calls):]]


def at_end(*calls):
    return listed(last(*calls, bookend()))


def each_called(*numbers):
    return [call(number) for number in numbers]


class AtAFoot(unittest.TestCase):

    def test_a_count_and_the_notes(self):
        self.assertEqual(last(series(), note(0), note(0), call(1), call(0), foot(1)), [2, 1, 0])

    def test_page_1_of_a_book_without_items(self):
        self.assertEqual(last(foot(1)), [0])
        self.assertEqual(last(series(), foot(1)), [0])

    def test_each_page_has_its_own(self):
        self.assertEqual(
            at_feet(3, series(), *[note(0)] * 4, call(3), page(), call(1), call(0), page(), call(2)),
            [[3], [1, 0], [2]])

    def test_a_page_without_notes(self):
        self.assertEqual(at_feet(4, series(), note(0), page(), page(), call(0), page()),
                         [[], [], [0], []])

    def test_series_by_series_each_as_they_are_read(self):
        self.assertEqual(
            at_feet(1, series(), series(LETTERS), series(ROMAN), note(2), note(0), note(1), note(1),
                    note(0), note(2), *each_called(5, 3, 4, 0, 2, 1)),
            [[4, 1, 3, 2, 5, 0]])

    def test_notes_within_notes(self):
        self.assertEqual(
            at_feet(2, series(), series(), note(1, 3, 1), note(0, 2), note(1), note(0), note(0),
                    call(4), page(), call(0)),
            [[4], [3, 1, 0, 2]])

    def test_notes_of_series_that_stand_elsewhere_are_left_out(self):
        self.assertEqual(
            at_feet(1, series(NUMBERS, 0, CHAPTER_END), series(), series(NUMBERS, 0, BOOK_END),
                    note(0), note(1, 4), note(2), note(1), note(2), *each_called(3, 0, 1, 2)),
            [[3, 1]])
        self.assertEqual(at_feet(1, series(NUMBERS, WITH_PAGE, BOOK_END), note(0), call(0)), [[]])

    def test_a_chapter_makes_no_page(self):
        self.assertEqual(at_feet(1, series(NUMBERS, WITH_CHAPTER), note(0), note(0), call(1),
                                 chapter(), call(0)),
                         [[1, 0]])

    def test_all_thirty(self):
        self.assertEqual(at_feet(1, series(), *[note(0)] * 30, *each_called(*range(29, -1, -1))),
                         [list(range(29, -1, -1))])

    def test_a_page_that_there_is_not(self):
        for number in (0, 2, 3, HIGHEST):
            self.assertEqual(last(foot(number)), [-2], number)
            self.assertEqual(last(chapter(), chapter(), foot(number)), [-2], number)
        book = [series(), note(0), page(), call(0), chapter(), page()]
        for number in (0, 4, 5, 65536, HIGHEST):
            self.assertEqual(last(*book, foot(number)), [-2], number)
        self.assertEqual(ask(*book, foot(2), foot(3))[-2:], [[1, 0], [0]])


class AtAChaptersEnd(unittest.TestCase):

    AUTHOR = series(NUMBERS, 0, CHAPTER_END)

    def test_a_count_and_the_notes(self):
        self.assertEqual(last(self.AUTHOR, note(0), note(0), call(1), call(0), chapterend(0)),
                         [2, 1, 0])

    def test_chapter_0_is_always_there(self):
        self.assertEqual(last(chapterend(0)), [0])
        self.assertEqual(last(chapter(), chapterend(0)), [0])
        self.assertEqual(last(self.AUTHOR, note(0), chapter(), call(0), chapterend(0)), [0])

    def test_each_chapter_has_its_own(self):
        self.assertEqual(
            at_ends(2, self.AUTHOR, *[note(0)] * 4, call(3), chapter(), call(1), call(0), chapter(),
                    call(2)),
            [[3], [1, 0], [2]])

    def test_a_chapter_without_notes(self):
        self.assertEqual(at_ends(3, self.AUTHOR, note(0), chapter(), chapter(), call(0), chapter()),
                         [[], [], [0], []])

    def test_series_by_series_each_as_they_are_read(self):
        self.assertEqual(
            at_ends(1, *[self.AUTHOR] * 3, note(2), note(0), note(1), note(1), note(0), note(2),
                    chapter(), *each_called(5, 3, 4, 0, 2, 1)),
            [[], [4, 1, 3, 2, 5, 0]])

    def test_notes_within_notes(self):
        self.assertEqual(
            at_ends(1, self.AUTHOR, self.AUTHOR, note(1, 3, 1), note(0, 2), note(1), note(0),
                    note(0), call(4), chapter(), call(0)),
            [[4], [3, 1, 0, 2]])

    def test_notes_of_series_that_stand_elsewhere_are_left_out(self):
        self.assertEqual(
            at_ends(0, series(), self.AUTHOR, series(NUMBERS, 0, BOOK_END), note(0), note(1, 4),
                    note(2), note(1), note(2), *each_called(3, 0, 1, 2)),
            [[3, 1]])
        self.assertEqual(at_ends(0, series(NUMBERS, WITH_CHAPTER, FOOT), note(0), call(0)), [[]])

    def test_notes_from_several_pages_of_one_chapter(self):
        self.assertEqual(
            at_ends(1, series(NUMBERS, WITH_PAGE, CHAPTER_END), *[note(0)] * 3, chapter(), call(2),
                    page(), call(0), page(), call(1)),
            [[], [2, 0, 1]])

    def test_a_chapter_that_there_is_not(self):
        for number in (1, 2, HIGHEST):
            self.assertEqual(last(chapterend(number)), [-2], number)
            self.assertEqual(last(page(), page(), chapterend(number)), [-2], number)
        book = [self.AUTHOR, note(0), chapter(), page(), call(0), chapter()]
        for number in (3, 4, 65536, HIGHEST):
            self.assertEqual(last(*book, chapterend(number)), [-2], number)
        self.assertEqual(ask(*book, chapterend(1), chapterend(2))[-2:], [[1, 0], [0]])


class AtTheBooksEnd(unittest.TestCase):

    AUTHOR = series(NUMBERS, 0, BOOK_END)

    def test_a_count_and_the_notes(self):
        self.assertEqual(last(self.AUTHOR, note(0), note(0), call(1), call(0), bookend()),
                         [2, 1, 0])

    def test_a_book_without_notes(self):
        self.assertEqual(last(bookend()), [0])
        self.assertEqual(last(self.AUTHOR, page(), chapter(), bookend()), [0])

    def test_notes_from_several_chapters_and_pages(self):
        self.assertEqual(
            at_end(self.AUTHOR, *[note(0)] * 5, call(3), page(), call(1), chapter(), call(4), call(0),
                   page(), chapter(), call(2)),
            [3, 1, 4, 0, 2])

    def test_numbers_that_begin_anew_make_no_other_place(self):
        for anew in (WITH_CHAPTER, WITH_PAGE):
            self.assertEqual(
                at_end(series(NUMBERS, anew, BOOK_END), *[note(0)] * 3, call(2), page(), chapter(),
                       call(0), chapter(), page(), call(1)),
                [2, 0, 1])

    def test_series_by_series_each_as_they_are_read(self):
        self.assertEqual(
            at_end(*[self.AUTHOR] * 3, note(2), note(0), note(1), note(1), note(0), note(2), call(5),
                   page(), call(3), chapter(), call(4), call(0), page(), call(2), call(1)),
            [4, 1, 3, 2, 5, 0])

    def test_notes_within_notes(self):
        self.assertEqual(
            at_end(self.AUTHOR, self.AUTHOR, note(1, 3, 1), note(0, 2), note(1), note(0), note(0),
                   call(4), chapter(), call(0)),
            [4, 3, 1, 0, 2])

    def test_notes_of_series_that_stand_elsewhere_are_left_out(self):
        self.assertEqual(
            at_end(series(), self.AUTHOR, series(NUMBERS, 0, CHAPTER_END), note(0), note(1, 4),
                   note(2), note(1), note(2), *each_called(3, 0, 1, 2)),
            [3, 1])
        self.assertEqual(at_end(series(), note(0), call(0)), [])


class InJustOnePlace(unittest.TestCase):

    def test_each_note_stands_where_its_series_does(self):
        book = [*MIXED, note(0), note(1), note(2), note(3), note(0), note(1), note(2), note(3),
                *each_called(7, 2, 1, 0), page(), chapter(), *each_called(3, 4, 5, 6)]
        self.assertEqual(at_feet(2, *book), [[0, 2], [4, 6]])
        self.assertEqual(at_ends(1, *book), [[1, 7], [5, 3]])
        self.assertEqual(at_end(*book), [])

    def test_asking_changes_nothing(self):
        book = [*MIXED, note(0), note(1), page(), chapter(), call(1), call(0)]
        asked = [foot(1), foot(2), chapterend(0), chapterend(1), bookend(), foot(3), chapterend(2)]
        told = ask(*book, *asked, *asked)[len(book):]
        self.assertEqual(told[:7], told[7:])
        self.assertEqual(told[:7], [[0], [1, 0], [0], [1, 1], [0], [-2], [-2]])


if __name__ == "__main__":
    unittest.main()
