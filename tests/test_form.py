"""The form of calls and answers; begins."""

import contextlib
import io
import unittest

from calling import (CHAPTER, LETTERS, NUMBERS, ROMAN, alike, ask, begins, bookend, call, changes,
                     chapter, chapterend, codes, flat, foot, item, mark, note, numbers, page, read,
                     series, signs, told_from, wrongs)
from notemarks.book import answers

EACH_CALL = [
    series(signs(42, 8224), 2, 1), series(signs(), 1, 2), series(NUMBERS),
    note(0, 1, 29), note(1), note(9), page(), chapter(), call(0), call(30),
    mark(4, ROMAN), mark(0, ROMAN), read(LETTERS, codes("ab")), read(LETTERS, []),
    read(signs(42, 42), [42]), wrongs(), numbers(), foot(1), chapterend(0), bookend(), alike(),
    told_from(0, 0), changes(0, 0), begins(), wrongs(), note(0),
    series(ROMAN, 1, 0), series(signs(105), 2, 1), series(NUMBERS, 0, 2), note(0, 1, 3), note(1),
    note(0), note(2), call(0), page(), chapter(), call(2), numbers(), foot(1), foot(2), foot(3),
    chapterend(0), chapterend(1), chapterend(2), bookend(), alike(), told_from(0, 2),
    told_from(2, 0), told_from(4, 0), changes(0, 0), changes(3, 0), changes(4, 0), changes(5, 0),
    wrongs(),
]


class Unchanging(list):
    """A list that lets nobody change it, not for a while either."""

    def refuse(self, *args, **kwargs):
        raise AssertionError("what was handed in was to be changed")

    append = clear = extend = insert = pop = remove = reverse = sort = refuse
    __setitem__ = __delitem__ = __iadd__ = __imul__ = refuse


class TheForm(unittest.TestCase):

    def test_each_answer_is_told_behind_how_many_numbers_it_has(self):
        calls = flat([series(NUMBERS), mark(12, NUMBERS), note(7), wrongs(), begins()])
        self.assertEqual(answers(calls), [1, 0, 3, 2, 49, 50, 1, -1, 1, 0, 1, 0])

    def test_one_call(self):
        self.assertEqual(answers([0]), [1, 0])
        self.assertEqual(answers([6]), [1, 0])
        self.assertEqual(answers([10]), [1, 0])
        self.assertEqual(answers([13, 0, 0]), [1, -2])
        self.assertEqual(answers([4, 1, 1, 0]), [2, 1, 49])

    def test_calls_are_told_as_the_interface_tells_them(self):
        calls = [1, 2, 1, 4, 3, 2, 42, 43, 2, 0, 3, 0, 1, 2, 3, 1, 0, 3, 1, 1, 3, 2, 2, 5,
                 4, 3, 4, 3, 2, 42, 43, 5, 6, 3, 2, 42, 43, 42, 42, 5, 3, 0, 49, 50, 6, 0]
        self.assertEqual(answers(calls), [
            1, 0, 1, 0, 1, 0, 1, 1, 1, 2,
            3, 2, 42, 42, 1, 3, 1, 12, 9, 4, 3, 0, 4, 5, 4, 1, 4, 2, 1, 0])

    def test_calls_on_what_is_read_are_told_as_the_interface_tells_them(self):
        calls = [1, 1, 0, 1, 1, 2, 0, 1, 1, 2, 0, 0, 3, 2, 2, 0, 3, 1, 0, 3, 1, 1,
                 7, 8, 1, 8, 2, 9, 0, 10, 11, 12, 0, 1, 12, 2, 0, 13, 0, 0, 13, 3, 0, 13, 4, 0]
        self.assertEqual(answers(calls), [
            1, 0, 1, 0, 1, 1, 1, 0, 1, 1, 1, 2,
            13, 2, 0, 0, 1, 1, 1, 97, 1, 0, 1, 2, 1, 98, 3, 2, 0, 1, 1, 0, 1, 0, 1, 0, 1, 0,
            4, 0, 0, 1, 98, 1, -2, 3, 2, 0, 1, 1, 0, 1, -2])

    def test_every_call_has_its_answer_in_order(self):
        self.assertEqual(ask(*EACH_CALL), [
            [0], [-1], [1],
            [0], [1], [-1], [0], [1], [2], [-1],
            [2, 105, 118], [-1], [28], [-6],
            [-1], [1, 4, 29], [-7], [-7], [-7], [-7], [-7],
            [-7], [-7], [0], [0], [-1],
            [0], [1], [2], [0], [1],
            [2], [3], [0], [1], [2], [3],
            [4, 0, 0, 1, 1, 1, 105, 1, 0, 1, 1, 1, 105, 3, 0, 1, 1, 1, 49, 2, 1, 2, 1, 1, 105],
            [1, 0], [1, 2], [-2],
            [1, 1], [0], [-2], [1, 3], [1, 0, 1], [2, 1, 1, 105],
            [1, 0, 1, 105], [-2], [1, 0], [1, 2], [0], [-2],
            [0]])

    def test_a_hundred_calls(self):
        self.assertEqual(answers([0] * 100), [1, 0] * 100)

    def test_a_hundred_calls_of_which_most_ask(self):
        book = [series(signs(42), 1), *[note(0, number + 1) for number in range(19)], note(0),
                chapter(), call(0)]
        asked = [numbers(), foot(1), alike(), chapterend(1), told_from(0, 19), changes(1, 0),
                 bookend()]
        told = ask(*book, *asked * 11)
        self.assertEqual(len(told), 100)
        self.assertEqual(told[23:], told[23:30] * 11)
        self.assertEqual(told[24:30], [[20, *range(20)], [0], [0], [0, 0, 20] + [42] * 20,
                                       [20, *range(20)], [0]])

    def test_what_is_handed_in_is_not_changed(self):
        calls = flat(EACH_CALL)
        before = list(calls)
        answers(calls)
        self.assertEqual(calls, before)

    def test_what_is_handed_in_is_not_changed_for_a_while_either(self):
        calls = flat(EACH_CALL)
        self.assertEqual(answers(Unchanging(calls)), answers(calls))

    def test_each_time_is_as_if_for_the_first_time(self):
        calls = flat(EACH_CALL)
        first = answers(calls)
        kept = list(first)
        first.clear()
        self.assertEqual(answers(calls), kept)

    def test_a_second_time_starts_with_a_new_book(self):
        answers(flat([series(), note(0), call(0), note(0, 17), page()]))
        self.assertEqual(answers(flat([note(0), wrongs(), page(), series()])),
                         [1, -1, 1, 0, 1, 0, 1, 0])

    def test_it_prints_nothing(self):
        printed = io.StringIO()
        with contextlib.redirect_stdout(printed), contextlib.redirect_stderr(printed):
            answers(flat(EACH_CALL))
        self.assertEqual(printed.getvalue(), "")

    def test_answers_are_a_list_of_plain_whole_numbers(self):
        told = answers(flat(EACH_CALL))
        self.assertIs(list, type(told))
        self.assertEqual({int}, {type(number) for number in told})


class Begins(unittest.TestCase):

    def test_it_answers_0(self):
        self.assertEqual(ask(begins(), begins()), [[0], [0]])

    def test_it_takes_away_series(self):
        told = ask(series(), series(), begins(), note(0), series(), series())
        self.assertEqual(told, [[0], [1], [0], [-1], [0], [1]])

    def test_it_takes_away_notes(self):
        told = ask(series(), note(0), note(0, 5), begins(), wrongs(), series(), note(0))
        self.assertEqual(told[3:], [[0], [0], [0], [0]])

    def test_it_takes_away_items(self):
        told = ask(call(3), item(CHAPTER), begins(), wrongs(), page(), page())
        self.assertEqual(told, [[0], [1], [0], [0], [0], [1]])

    def test_each_limit_counts_from_it_on(self):
        fill = [series()] * 4 + [note(0)] * 30
        told = ask(*fill, begins(), *fill)
        self.assertEqual(told[:34], told[35:])
        self.assertNotIn([-5], told)
        told = ask(*[page()] * 60, begins(), *[page()] * 39)
        self.assertEqual(told[-1], [38])


if __name__ == "__main__":
    unittest.main()
