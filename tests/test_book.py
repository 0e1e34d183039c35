"""series, note, item: what they answer, refuse, and leave as it was."""

import unittest

from calling import (HIGHEST, LETTERS, NUMBERS, ROMAN, ask, call, chapter, item, last, note,
                     page, series, signs, wrongs)
from notemarks.book import answers

UNFIT_SIGNS = [
    signs(),
    signs(1, 2, 3, 4, 5, 6, 7, 8, 9),
    signs(*range(1, 21)),
    signs(42, 42),
    signs(42, 43, 44, 42),
    signs(0),
    signs(42, 0),
    signs(65536),
    signs(42, 65536, 43),
    signs(HIGHEST),
]
FIT_SIGNS = [
    signs(42),
    signs(1),
    signs(3, 2),
    signs(65535),
    signs(1, 65535),
    signs(42, 8224, 8225, 167, 182, 35, 43, 1),
]


class TellingSeries(unittest.TestCase):

    def test_its_numbers_go_from_0_to_3(self):
        told = ask(series(NUMBERS, 0, 0), series(LETTERS, 1, 1),
                   series(ROMAN, 2, 2), series(signs(42), 0, 2))
        self.assertEqual(told, [[0], [1], [2], [3]])

    def test_kinds_that_are_taken(self):
        for kind in [NUMBERS, LETTERS, ROMAN] + FIT_SIGNS:
            for anew in range(3):
                for stand in range(3):
                    self.assertEqual(ask(series(kind, anew, stand)), [[0]], kind)

    def test_signs_that_are_refused(self):
        for kind in UNFIT_SIGNS:
            self.assertEqual(ask(series(kind)), [[-1]], kind)

    def test_the_fifth_is_refused(self):
        self.assertEqual(ask(*[series()] * 6)[3:], [[3], [-5], [-5]])
        self.assertEqual(last(*[series()] * 4, series(signs(1, 2))), [-5])

    def test_unfit_signs_come_ahead_of_the_fifth(self):
        for kind in UNFIT_SIGNS:
            self.assertEqual(last(*[series()] * 4, series(kind)), [-1], kind)

    def test_a_refusal_changes_nothing(self):
        told = ask(series(signs()), series(), series(signs(7, 7)), series(), note(1),
                   note(2), series(signs(0)), series(), series(), series(), note(3), note(4))
        self.assertEqual(told, [[-1], [0], [-1], [1], [0], [-1], [-1], [2], [3], [-5], [1], [-1]])


class TellingNotes(unittest.TestCase):

    def test_its_numbers_go_from_0_to_29(self):
        told = ask(series(), *[note(0)] * 30)
        self.assertEqual(told[1:], [[number] for number in range(30)])

    def test_each_series_that_there_is_is_taken(self):
        told = ask(*[series()] * 4, note(3), note(0), note(2), note(1))
        self.assertEqual(told[4:], [[0], [1], [2], [3]])

    def test_a_series_that_there_is_not(self):
        self.assertEqual(ask(note(0)), [[-1]])
        self.assertEqual(ask(series(), note(1), note(0)), [[0], [-1], [0]])
        self.assertEqual(last(series(), series(), note(2)), [-1])
        self.assertEqual(last(*[series()] * 4, note(4)), [-1])
        self.assertEqual(last(*[series()] * 4, note(HIGHEST)), [-1])

    def test_how_many_calls_it_may_have(self):
        for size in range(9):
            self.assertEqual(last(series(), note(0, *range(size))), [0], size)
        for size in range(9, 21):
            self.assertEqual(last(series(), note(0, *range(size))), [-1], size)
        self.assertEqual(last(series(), note(0, *[3] * 8)), [0])
        self.assertEqual(last(series(), note(0, *[3] * 9)), [-1])

    def test_a_call_above_29(self):
        self.assertEqual(last(series(), note(0, 29)), [0])
        self.assertEqual(last(series(), note(0, *[29] * 8)), [0])
        for number in (30, 31, 65536, HIGHEST):
            self.assertEqual(last(series(), note(0, number)), [-1])
            self.assertEqual(last(series(), note(0, 1, 2, number)), [-1])
            self.assertEqual(last(series(), note(0, number, 1, 2)), [-1])

    def test_calls_of_itself_and_of_notes_that_are_not_there_yet(self):
        self.assertEqual(ask(series(), note(0, 0), note(0, 2, 17), note(0, 0))[1:],
                         [[0], [1], [2]])

    def test_the_31st_is_refused(self):
        self.assertEqual(ask(series(), *[note(0)] * 32)[30:], [[29], [-5], [-5]])

    def test_what_is_unfit_comes_ahead_of_the_31st(self):
        full = [series()] + [note(0)] * 30
        self.assertEqual(last(*full, note(1)), [-1])
        self.assertEqual(last(*full, note(0, *range(9))), [-1])
        self.assertEqual(last(*full, note(0, 30)), [-1])
        self.assertEqual(last(*full, note(0, 29)), [-5])

    def test_a_refusal_changes_nothing(self):
        told = ask(series(), note(1, 7), note(0, 7, 30), note(0, *[7] * 9), wrongs(), note(0))
        self.assertEqual(told[1:], [[-1], [-1], [-1], [0], [0]])
        full = [series()] + [note(0)] * 30
        self.assertEqual(last(*full, wrongs()), last(*full, note(0, 3, 4), wrongs()))


class TellingItems(unittest.TestCase):

    def test_its_numbers_go_on_from_0(self):
        told = ask(page(), chapter(), call(0), call(0), chapter(), page())
        self.assertEqual(told, [[0], [1], [2], [3], [4], [5]])

    def test_its_numbers_go_to_99(self):
        told = ask(*([page(), chapter(), call(3), call(29)] * 25))
        self.assertEqual(told, [[number] for number in range(100)])

    def test_a_note_above_29(self):
        self.assertEqual(ask(call(29), call(30), call(31), call(HIGHEST), call(0)),
                         [[0], [-1], [-1], [-1], [1]])

    def test_the_101st_is_refused(self):
        # These lists have more than the 100 calls that are handed in at the
        # most: in fewer calls the 101st item can't be told.
        for what in ([0], [1], [2, 0], [2, 29]):
            told = ask(*[page()] * 100, item(what), item(what))
            self.assertEqual(told[99:], [[99], [-5], [-5]], what)

    def test_a_note_above_29_comes_ahead_of_the_101st(self):
        self.assertEqual(last(*[page()] * 100, call(30)), [-1])
        self.assertEqual(last(*[page()] * 100, call(HIGHEST)), [-1])

    def test_a_refusal_changes_nothing(self):
        self.assertEqual(ask(call(30), page(), call(99), wrongs(), page()),
                         [[-1], [0], [-1], [0], [1]])
        self.assertEqual(last(*[page()] * 100, call(4), wrongs()), [0])

    def test_it_has_one_row(self):
        self.assertEqual(answers([3, 1, 0, 3, 1, 1, 3, 2, 2, 9]), [1, 0, 1, 1, 1, 2])


if __name__ == "__main__":
    unittest.main()
