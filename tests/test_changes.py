"""changes: which notes would have another number if there were a further one."""

import unittest

from calling import (BOOK_END, CHAPTER_END, FOOT, HIGHEST, LETTERS, NUMBERS, WITH_CHAPTER, WITH_PAGE,
                     alike, ask, begins, call, changes, chapter, last, listed, note, numbers, page,
                     read_in, series, wrongs)

# Its text has 9 items: notes 0 to 5, a page and two chapters.
TEXT = [call(0), call(1), page(), call(2), chapter(), call(3), call(4), chapter(), call(5)]


def changed(place, number_of_series, *calls):
    return listed(last(*calls, changes(place, number_of_series)))


def at_each_place(number_of_series, *calls):
    """Tell what changes ahead of each item and behind the last one."""
    items = [one for one in calls if one[0] == 3]
    asked = [changes(place, number_of_series) for place in range(len(items) + 1)]
    return [listed(answer) for answer in ask(*calls, *asked)[len(calls):]]


class Changes(unittest.TestCase):

    def test_a_count_and_the_notes(self):
        self.assertEqual(last(series(), *[note(0)] * 3, call(2), call(0), call(1), changes(1, 0)),
                         [2, 0, 1])

    def test_anew_never(self):
        self.assertEqual(at_each_place(0, series(), *[note(0)] * 6, *TEXT), [
            [0, 1, 2, 3, 4, 5], [1, 2, 3, 4, 5], [2, 3, 4, 5], [2, 3, 4, 5], [3, 4, 5],
            [3, 4, 5], [4, 5], [5], [5], []])

    def test_anew_with_a_chapter(self):
        self.assertEqual(at_each_place(0, series(NUMBERS, WITH_CHAPTER), *[note(0)] * 6, *TEXT), [
            [0, 1, 2], [1, 2], [2], [2], [], [3, 4], [4], [], [5], []])

    def test_anew_with_a_page(self):
        self.assertEqual(at_each_place(0, series(NUMBERS, WITH_PAGE), *[note(0)] * 6, *TEXT), [
            [0, 1], [1], [], [2, 3, 4, 5], [3, 4, 5], [3, 4, 5], [4, 5], [5], [5], []])

    def test_ahead_of_a_page_it_is_on_the_page_before(self):
        book = [series(NUMBERS, WITH_PAGE), note(0), note(0), call(0), page(), call(1)]
        self.assertEqual(changed(1, 0, *book), [])
        self.assertEqual(changed(2, 0, *book), [1])

    def test_ahead_of_a_chapter_it_is_in_the_chapter_before(self):
        book = [series(NUMBERS, WITH_CHAPTER), note(0), note(0), call(0), chapter(), call(1)]
        self.assertEqual(changed(1, 0, *book), [])
        self.assertEqual(changed(2, 0, *book), [1])

    def test_behind_the_last_item_nothing_changes(self):
        for anew in range(3):
            self.assertEqual(changed(9, 0, series(NUMBERS, anew), *[note(0)] * 6, *TEXT), [])

    def test_as_they_are_read(self):
        self.assertEqual(changed(0, 0, series(), *[note(0)] * 4, call(2), page(), call(0), call(3),
                                 chapter(), call(1)),
                         [2, 0, 3, 1])

    def test_notes_within_notes(self):
        nested = [series(), note(0, 3, 1), note(0, 2), note(0), note(0), note(0), call(4), call(0)]
        self.assertEqual(at_each_place(0, *nested), [[4, 0, 3, 1, 2], [0, 3, 1, 2], []])

    def test_notes_nested_deep(self):
        row = [note(0, number + 1) for number in range(28)] + [note(0)]
        self.assertEqual(at_each_place(0, series(), *row, call(0)), [list(range(29)), []])

    def test_other_series_are_unchanged(self):
        book = [series(), series(LETTERS, WITH_CHAPTER), series(NUMBERS, WITH_PAGE),
                note(0), note(1), note(2), note(0), note(1), note(2), *TEXT]
        self.assertEqual(changed(0, 0, *book), [0, 3])
        self.assertEqual(changed(0, 1, *book), [1])
        self.assertEqual(changed(0, 2, *book), [])
        self.assertEqual(changed(3, 0, *book), [3])
        self.assertEqual(changed(3, 1, *book), [])
        self.assertEqual(changed(3, 2, *book), [2, 5])
        self.assertEqual(changed(6, 1, *book), [4])

    def test_a_note_of_another_series_within_a_note(self):
        book = [series(), series(), note(0, 1), note(1, 2), note(0), note(1), call(3), call(0)]
        self.assertEqual(changed(0, 0, *book), [0, 2])
        self.assertEqual(changed(0, 1, *book), [3, 1])
        self.assertEqual(changed(1, 1, *book), [1])

    def test_a_series_without_notes(self):
        book = [series(), series(), *[note(0)] * 6, *TEXT]
        self.assertEqual(at_each_place(1, *book), [[]] * 10)

    def test_a_book_without_items(self):
        self.assertEqual(last(series(), changes(0, 0)), [0])
        self.assertEqual(last(*[series()] * 4, changes(0, 3)), [0])

    def test_a_book_without_notes(self):
        self.assertEqual(at_each_place(0, series(), page(), chapter()), [[]] * 3)

    def test_where_notes_stand_is_no_matter(self):
        for stand in (FOOT, CHAPTER_END, BOOK_END):
            self.assertEqual(changed(1, 0, series(NUMBERS, 0, stand), *[note(0)] * 6, *TEXT),
                             [1, 2, 3, 4, 5])

    def test_twenty_nine_notes(self):
        book = [series(), *[note(0)] * 29, *[call(number) for number in range(29)]]
        self.assertEqual(changed(0, 0, *book), list(range(29)))
        self.assertEqual(changed(28, 0, *book), [28])
        self.assertEqual(changed(29, 0, *book), [])


class WhatThereWouldBe(unittest.TestCase):

    def test_each_changes_by_one_as_a_further_note_makes_it(self):
        # The further note is told behind the others, so these keep their numbers.
        kinds = [series(NUMBERS, anew) for anew in range(3)]
        notes = [note(0, 6), note(1), note(2, 7, 8), note(0), note(1), note(2), note(0), note(1),
                 note(0)]
        before = {row[0]: row[3] for row in read_in(last(*kinds, *notes, *TEXT, numbers()))}
        for own in range(3):
            for place in range(len(TEXT) + 1):
                text = TEXT[:place] + [call(9)] + TEXT[place:]
                told = read_in(last(*kinds, *notes, note(own), *text, numbers()))
                other = [row[0] for row in told if row[0] != 9 and row[3] != before[row[0]]]
                by_one = [row[0] for row in told if row[0] != 9 and row[3] == before[row[0]] + 1]
                self.assertEqual(changed(place, own, *kinds, *notes, *TEXT), other)
                self.assertEqual(by_one, other)


class Refused(unittest.TestCase):

    def test_an_item_that_there_is_not(self):
        book = [series(), *[note(0)] * 6, *TEXT]
        self.assertEqual(last(*book, changes(9, 0)), [0])
        for place in (10, 11, 100, 101, HIGHEST):
            self.assertEqual(last(*book, changes(place, 0)), [-2])
        self.assertEqual(last(series(), changes(1, 0)), [-2])

    def test_a_series_that_there_is_not(self):
        self.assertEqual(last(changes(0, 0)), [-2])
        book = [series(), series(), *[note(0)] * 6, *TEXT]
        for number in (2, 3, 4, HIGHEST):
            self.assertEqual(last(*book, changes(0, number)), [-2])
            self.assertEqual(last(*book, changes(10, number)), [-2])
        self.assertEqual(last(*[series()] * 4, changes(0, 4)), [-2])

    def test_thirty_notes(self):
        book = [series(), series(), *[note(0)] * 30, *[call(number) for number in range(30)]]
        for place in (0, 1, 29, 30):
            self.assertEqual(last(*book, changes(place, 0)), [-5])
            self.assertEqual(last(*book, changes(place, 1)), [-5])

    def test_what_is_not_there_comes_ahead_of_thirty_notes(self):
        book = [series(), *[note(0)] * 30, *[call(number) for number in range(30)]]
        self.assertEqual(last(*book, changes(31, 0)), [-2])
        self.assertEqual(last(*book, changes(HIGHEST, 0)), [-2])
        self.assertEqual(last(*book, changes(0, 1)), [-2])
        self.assertEqual(last(*book, changes(30, HIGHEST)), [-2])

    def test_a_full_text_is_no_refusal(self):
        # Such a text can't be told and asked about in 100 calls.
        book = [series(), note(0), *[page()] * 99, call(0)]
        self.assertEqual(changed(0, 0, *book), [0])
        self.assertEqual(changed(100, 0, *book), [])
        self.assertEqual(last(*book, changes(101, 0)), [-2])


class NothingIsChanged(unittest.TestCase):

    def test_ask_twice(self):
        book = [series(), *[note(0)] * 6, *TEXT]
        told = ask(*book, numbers(), changes(4, 0), changes(4, 0), numbers(), wrongs())
        self.assertEqual(told[-5], told[-2])
        self.assertEqual(told[-4:-2], [[3, 3, 4, 5], [3, 3, 4, 5]])
        self.assertEqual(told[-1], [0])

    def test_the_book_goes_on(self):
        told = ask(series(), note(0), call(0), changes(0, 0), note(0), call(1), page(), series(),
                   numbers(), begins(), numbers())
        self.assertEqual(told[3:8], [[1, 0], [1], [1], [2], [1]])
        self.assertEqual(read_in(told[8]), [(0, 0, 1, 1, [49]), (1, 0, 1, 2, [50])])
        self.assertEqual(told[9:], [[0], [0]])

    def test_a_refusal_changes_nothing(self):
        book = [series(), *[note(0)] * 6, *TEXT]
        told = ask(*book, numbers(), changes(10, 0), changes(0, 1), numbers(), alike())
        self.assertEqual(told[-5], told[-2])
        self.assertEqual(told[-1], [0])


if __name__ == "__main__":
    unittest.main()
