"""-7: what is asked of a book with whose notes something is wrong."""

import unittest

from calling import (BOOK_END, CHAPTER_END, HIGHEST, NUMBERS, alike, ask, begins, bookend, call,
                     changes, chapter, chapterend, foot, last, note, numbers, page, series, told_from,
                     wrongs)

ASKED = [numbers(), foot(1), chapterend(0), bookend(), alike(), told_from(0, 0), changes(0, 0)]
NOT_THERE = [foot(0), foot(9), foot(HIGHEST), chapterend(9), chapterend(HIGHEST), told_from(0, 30),
             told_from(30, 0), told_from(HIGHEST, HIGHEST), changes(101, 0), changes(0, 4),
             changes(HIGHEST, HIGHEST)]
WRONG = {
    "nobody calls it": [series(), note(0)],
    "nobody calls the second one": [series(), note(0), call(0), note(0)],
    "the text calls it twice": [series(), note(0), call(0), call(0)],
    "the text and a note call it": [series(), note(0, 1), note(0), call(0), call(1)],
    "two notes call it": [series(), note(0, 2), note(0, 2), note(0), call(0), call(1)],
    "it calls itself": [series(), note(0), call(0), note(0, 1)],
    "they call one another": [series(), note(0), call(0), note(0, 2), note(0, 1)],
    "it calls itself and is called": [series(), note(0, 0), call(0)],
    "the text calls what isn't there": [series(), note(0), call(0), call(1)],
    "a note calls what isn't there": [series(), note(0, 29), call(0)],
    "a book without notes calls one": [series(), call(0)],
}


class SomethingIsWrong(unittest.TestCase):

    def test_each_of_the_four_is_among_the_books(self):
        self.assertEqual({last(*book, wrongs())[1] for book in WRONG.values()}, {1, 2, 3, 4})

    def test_each_call_is_refused(self):
        for why, book in WRONG.items():
            self.assertNotEqual(last(*book, wrongs()), [0], why)
            self.assertEqual(ask(*book, *ASKED)[len(book):], [[-7]] * len(ASKED), why)

    def test_it_comes_ahead_of_what_is_not_there(self):
        for why, book in WRONG.items():
            self.assertEqual(ask(*book, *NOT_THERE)[len(book):], [[-7]] * len(NOT_THERE), why)

    def test_it_comes_ahead_of_thirty_notes(self):
        full = [series(), *[note(0)] * 30, *[call(number) for number in range(29)]]
        self.assertEqual(last(*full, changes(0, 0)), [-7])
        self.assertEqual(last(*full, changes(0, 1)), [-7])
        self.assertEqual(last(*full, call(29), changes(0, 0)), [-5])

    def test_which_page_chapter_or_series_it_is_on_is_no_matter(self):
        book = [series(NUMBERS, 0, CHAPTER_END), series(NUMBERS, 0, BOOK_END), note(0), note(1),
                call(0), page(), chapter(), call(1)]
        asked = [foot(1), chapterend(0), bookend(), told_from(0, 0), changes(0, 0)]
        self.assertNotIn([-7], ask(*book, *asked))
        told = ask(*book, call(7), *asked)
        self.assertEqual(told[-len(asked):], [[-7]] * len(asked))

    def test_refusals_change_nothing(self):
        for why, book in WRONG.items():
            told = ask(*book, wrongs(), *ASKED, wrongs())
            self.assertEqual(told[len(book)], told[-1], why)
        told = ask(series(), note(0), *ASKED, note(0), page(), series(), call(0), call(1), numbers())
        self.assertEqual(told[9:13], [[1], [0], [1], [1]])
        self.assertEqual(told[-1], [2, 0, 0, 2, 1, 1, 49, 1, 0, 2, 2, 1, 50])


class ThenItIsPutRight(unittest.TestCase):

    def assert_put_right(self, book, *further):
        size = len(ASKED)
        told = ask(*book, *ASKED, *further, *ASKED, wrongs())
        self.assertEqual(told[len(book):len(book) + size], [[-7]] * size)
        self.assertNotIn([-7], told[len(book) + size:])
        self.assertEqual(told[-1], [0])
        # Having asked while something was wrong makes no difference.
        straight = ask(*book, *further, *ASKED)
        self.assertEqual(told[-size - 1:-1], straight[-size:])

    def test_a_note_that_nobody_calls_is_called_by_the_text(self):
        self.assert_put_right([series(), note(0)], call(0))
        self.assert_put_right([series(), note(0), call(0), note(0), page()], call(1))

    def test_a_note_that_nobody_calls_is_called_by_a_note(self):
        self.assert_put_right([series(), note(0), call(1)], note(0, 0))

    def test_notes_to_which_no_calls_lead(self):
        self.assert_put_right([series(), note(0, 1), note(0, 2), note(0)], call(0))

    def test_a_note_that_is_not_there_is_told(self):
        self.assert_put_right([series(), call(0)], note(0))
        self.assert_put_right([series(), note(0, 1, 2), call(0), note(0)], note(0))
        self.assert_put_right([series(), chapter(), call(1), note(0), call(0)], note(0))

    def test_what_cannot_be_put_right_is_left_with_a_new_book(self):
        for why, book in WRONG.items():
            told = ask(*book, *ASKED, begins(), *ASKED)
            self.assertEqual(told[-len(ASKED):], [[0], [0], [0], [0], [0], [-2], [-2]], why)

    def test_and_wrong_once_more(self):
        told = ask(series(), note(0), numbers(), call(0), numbers(), note(0), numbers(), call(1),
                   numbers(), call(1), numbers())
        self.assertEqual([answer[0] for answer in told[2::2]], [-7, 1, -7, 2, -7])


class NothingIsWrong(unittest.TestCase):

    def test_a_new_book(self):
        self.assertEqual(ask(*ASKED), [[0], [0], [0], [0], [0], [-2], [-2]])

    def test_a_call_that_was_refused_is_not_wrong(self):
        told = ask(series(), note(0), call(0), call(30), note(9), note(0, 77), note(0, *[0] * 9),
                   *ASKED)
        self.assertNotIn([-7], told)


if __name__ == "__main__":
    unittest.main()
