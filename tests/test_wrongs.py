"""wrongs: what is wrong with notes, and in which order it is told."""

import itertools
import unittest

from calling import ask, call, chapter, last, note, page, series, wrongs


def wrong(notes, text):
    """Tell what is wrong, as pairs, with notes (their calls) and what the text calls."""
    told = last(series(), *[note(0, *calls) for calls in notes],
                *[call(number) for number in text], wrongs())
    pairs = list(zip(told[1::2], told[2::2]))
    if len(told) != 1 + 2 * told[0]:
        raise AssertionError("the count doesn't fit the pairs")
    return pairs


def leads_to(notes, text, wanted):
    """Whether some row of calls from the text's on, none longer than needed, ends there."""
    ends = set(text)
    for step in notes:
        ends = ends | {end for begin in ends if begin < len(notes) for end in notes[begin]}
    return wanted in ends


def expected(notes, text):
    """What the document's words ask for, said again in another way."""
    called = list(text) + [number for calls in notes for number in calls]
    pairs = []
    for number in range(len(notes)):
        if number not in called:
            pairs.append((1, number))
        elif called.index(number) != len(called) - 1 - called[::-1].index(number):
            pairs.append((2, number))
        elif not leads_to(notes, text, number):
            pairs.append((3, number))
    absent = [number for number in called if number >= len(notes)]
    return pairs + [(4, number) for number in dict.fromkeys(absent)]


class Wrongs(unittest.TestCase):

    def test_nothing_is_wrong(self):
        self.assertEqual(ask(wrongs()), [[0]])
        self.assertEqual(last(series(), page(), chapter(), wrongs()), [0])
        self.assertEqual(wrong([[]], [0]), [])
        self.assertEqual(wrong([[2], [], [1]], [0]), [])
        self.assertEqual(wrong([[], [], []], [2, 0, 1]), [])
        self.assertEqual(wrong([[1, 2], [3], [], []], [0]), [])

    def test_the_answer_has_a_count_and_pairs(self):
        self.assertEqual(last(series(), note(0), note(0, 5), wrongs()), [3, 1, 0, 1, 1, 4, 5])

    def test_a_note_that_nobody_calls(self):
        self.assertEqual(wrong([[]], []), [(1, 0)])
        self.assertEqual(wrong([[], [], []], [1]), [(1, 0), (1, 2)])

    def test_a_note_that_the_text_calls_twice(self):
        self.assertEqual(wrong([[]], [0, 0]), [(2, 0)])
        self.assertEqual(wrong([[]], [0, 0, 0]), [(2, 0)])

    def test_a_note_that_notes_call_twice(self):
        self.assertEqual(wrong([[2], [2], []], [0, 1]), [(2, 2)])
        self.assertEqual(wrong([[1, 1], []], [0]), [(2, 1)])

    def test_a_note_that_the_text_and_a_note_call(self):
        self.assertEqual(wrong([[1], []], [0, 1]), [(2, 1)])
        self.assertEqual(wrong([[1], []], [1, 0]), [(2, 1)])

    def test_a_note_called_within_one_that_is_called_twice(self):
        self.assertEqual(wrong([[1], []], [0, 0]), [(2, 0)])

    def test_a_note_that_calls_itself(self):
        self.assertEqual(wrong([[0]], []), [(3, 0)])
        self.assertEqual(wrong([[], [1]], [0]), [(3, 1)])
        self.assertEqual(wrong([[0]], [0]), [(2, 0)])
        self.assertEqual(wrong([[0, 0]], []), [(2, 0)])

    def test_a_ring_of_notes(self):
        self.assertEqual(wrong([[1], [0]], []), [(3, 0), (3, 1)])
        self.assertEqual(wrong([[], [3], [1], [2]], [0]), [(3, 1), (3, 2), (3, 3)])
        ring = [[(number + 1) % 30] for number in range(30)]
        self.assertEqual(wrong(ring, []), [(3, number) for number in range(30)])

    def test_a_note_in_a_ring_that_is_called_from_without(self):
        self.assertEqual(wrong([[1], [0]], [0]), [(2, 0)])
        self.assertEqual(wrong([[1], [0]], [1]), [(2, 1)])
        self.assertEqual(wrong([[1], [2], [1]], [0]), [(2, 1)])
        self.assertEqual(wrong([[1], [2], [1]], []), [(1, 0), (2, 1), (3, 2)])

    def test_a_note_called_from_a_ring(self):
        self.assertEqual(wrong([[1, 2], [0], []], []), [(3, 0), (3, 1), (3, 2)])

    def test_a_note_called_by_one_that_nobody_calls(self):
        self.assertEqual(wrong([[1], [2], []], []), [(1, 0), (3, 1), (3, 2)])

    def test_notes_in_order_each_with_the_first_that_is_so(self):
        self.assertEqual(wrong([[], [0], [2], [3, 3], [5], []], [0, 4]),
                         [(2, 0), (1, 1), (3, 2), (2, 3)])

    def test_a_long_row_of_notes(self):
        row = [[number + 1] for number in range(29)] + [[]]
        self.assertEqual(wrong(row, [0]), [])
        back = [[]] + [[number] for number in range(29)]
        self.assertEqual(wrong(back, [29]), [])
        self.assertEqual(wrong(back, [28]), [(2, 28), (1, 29)])

    def test_a_note_that_is_not_there(self):
        self.assertEqual(wrong([], [0]), [(4, 0)])
        self.assertEqual(wrong([[29]], [0]), [(4, 29)])
        self.assertEqual(wrong([[1]], [0]), [(4, 1)])

    def test_each_note_that_is_not_there_once(self):
        self.assertEqual(wrong([], [5, 5, 3, 5]), [(4, 5), (4, 3)])
        self.assertEqual(wrong([[9, 9], [9]], [0, 1, 9]), [(4, 9)])

    def test_as_they_are_called_first_by_the_text_then_by_notes_in_order(self):
        self.assertEqual(wrong([[20, 9], [8, 7, 20]], [1, 0, 8, 29]),
                         [(4, 8), (4, 29), (4, 20), (4, 9), (4, 7)])
        # Note 1 is read ahead of note 0, yet notes come in their own order.
        self.assertEqual(wrong([[20], [21, 0]], [1]), [(4, 20), (4, 21)])

    def test_a_call_within_a_note_that_nobody_calls(self):
        self.assertEqual(wrong([[12]], []), [(1, 0), (4, 12)])

    def test_notes_that_are_there_come_ahead_of_those_that_are_not(self):
        self.assertEqual(wrong([[], []], [7, 1]), [(1, 0), (4, 7)])

    def test_a_note_told_later_than_it_is_called(self):
        told = ask(series(), call(1), wrongs(), note(0, 2), wrongs(), note(0), wrongs(),
                   note(0), call(0), wrongs())
        self.assertEqual([told[2], told[4], told[6], told[9]],
                         [[1, 4, 1], [3, 1, 0, 4, 1, 4, 2], [2, 1, 0, 4, 2], [0]])

    def test_a_page_or_chapter_calls_nothing(self):
        told = last(series(), note(0), note(0), page(), call(1), chapter(), page(), wrongs())
        self.assertEqual(told, [1, 1, 0])

    def test_it_changes_nothing(self):
        told = ask(series(), note(0, 1, 4), note(0), call(0), wrongs(), wrongs(), note(0), wrongs())
        self.assertEqual(told[4:], [[1, 4, 4], [1, 4, 4], [2], [2, 1, 2, 4, 4]])

    def test_every_small_book(self):
        rows = [list(row) for size in range(3) for row in itertools.product(range(3), repeat=size)]
        for text, first, second in itertools.product(rows, repeat=3):
            notes = [first, second]
            self.assertEqual(wrong(notes, text), expected(notes, text), (notes, text))

    def test_three_notes_with_a_call_each(self):
        rows = [[]] + [[number] for number in range(5)]
        texts = [list(row) for size in range(4) for row in itertools.product(range(4), repeat=size)]
        for text in texts[::3]:
            for notes in itertools.product(rows, repeat=3):
                self.assertEqual(wrong(notes, text), expected(notes, text), (notes, text))


if __name__ == "__main__":
    unittest.main()
