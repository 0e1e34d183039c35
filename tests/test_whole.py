"""Many books: every answer beside the document's words, said again in another way."""

import unittest

from calling import (alike, ask, bookend, call, changes, chapterend, foot, item, last, listed, mark,
                     note, numbers, read, read_in, series, signs, told_from, wrongs)

KINDS = [[0], [1], [2], signs(105), signs(49, 97), signs(42, 43, 44)]


class Steps:
    """Numbers that look as if they came by chance, the same at each run."""

    def __init__(self, seed):
        self.state = seed * 7919 + 17

    def below(self, most):
        self.state = (self.state * 1103515245 + 12345) % 2147483648
        return (self.state >> 12) % most

    def shuffled(self, row):
        row = list(row)
        return [row.pop(self.below(len(row))) for left in range(len(row))]


class Story:
    """A book with whose notes nothing is wrong, and what the words say of it."""

    def __init__(self, seed):
        steps = Steps(seed)
        self.series = [(steps.below(3), steps.below(3), KINDS[steps.below(len(KINDS))])
                       for one in range(1 + steps.below(4))]
        size = steps.below(13)
        self.notes = [[steps.below(len(self.series))] for one in range(size)]
        self.text = []
        told = []
        # Each note is called by the text or by one that has a place already.
        for number in steps.shuffled(range(size)):
            callers = [other for other in told if len(self.notes[other]) < 9]
            if callers and steps.below(2):
                self.notes[callers[steps.below(len(callers))]].append(number)
            else:
                self.text.append([2, number])
            told.append(number)
        for one in range(steps.below(9)):
            self.text.insert(steps.below(len(self.text) + 1), [steps.below(2)])

    def series_and_notes(self):
        return [*[series(kind, anew, stand) for anew, stand, kind in self.series],
                *[note(*one) for one in self.notes]]

    def items(self):
        return [item(what) for what in self.text]

    def ask(self, *asked):
        return ask(*self.series_and_notes(), *self.items(), *asked)[-len(asked):]

    def reading(self, end=None):
        """Where each note, called ahead of item end, is read: it, chapter, page."""
        found = []

        def go(number, place):
            found.append((number, *place))
            for other in self.notes[number][1:]:
                go(other, place)

        for at, what in enumerate(self.text[:end]):
            if what[0] == 2:
                ahead = self.text[:at]
                go(what[1], (ahead.count([1]), 1 + ahead.count([0])))
        return found

    def of(self, number):
        return self.series[self.notes[number][0]]

    def same_part(self, anew, one, other):
        return anew == 0 or one[anew] == other[anew]

    def counts(self):
        """Each note's number, in the order of reading."""
        reading = self.reading()
        return [sum(self.notes[other[0]][0] == self.notes[one[0]][0]
                    and self.same_part(self.of(one[0])[0], one, other)
                    for other in reading[:at + 1])
                for at, one in enumerate(reading)]

    def rows(self):
        """What numbers is to tell; a mark is what mark answers."""
        counts = self.counts()
        marks = [last(mark(number, self.of(one[0])[2]))[1:]
                 for one, number in zip(self.reading(), counts)]
        return [(*one, number, own) for one, number, own in zip(self.reading(), counts, marks)]

    def standing(self, stand, place, value):
        """The notes that stand so, where the value at place (1 chapter, 2 page) is this one."""
        found = [one for one in self.reading()
                 if self.of(one[0])[1] == stand and (place == 0 or one[place] == value)]
        return [one[0] for one in sorted(found, key=lambda one: self.notes[one[0]][0])]

    def changed(self, place, own):
        """The notes of this series that are read from place on in the part where it is."""
        ahead = self.text[:place]
        there = (None, ahead.count([1]), 1 + ahead.count([0]))
        before = self.reading(place)
        return [one[0] for one in self.reading()
                if one not in before and self.notes[one[0]][0] == own
                and self.same_part(self.series[own][0], one, there)]


STORIES = [Story(seed) for seed in range(300)]


class EveryAnswer(unittest.TestCase):

    def test_the_books_are_not_all_alike(self):
        self.assertEqual({len(story.series) for story in STORIES}, {1, 2, 3, 4})
        self.assertEqual({len(story.notes) for story in STORIES}, set(range(13)))
        self.assertTrue(any(len(one) > 3 for story in STORIES for one in story.notes))

    def test_nothing_is_wrong_with_them(self):
        for story in STORIES:
            self.assertEqual(story.ask(wrongs()), [[0]])

    def test_numbers(self):
        for story in STORIES:
            self.assertEqual(read_in(story.ask(numbers())[0]), story.rows())

    def test_foot(self):
        for story in STORIES:
            for number in range(1, 2 + story.text.count([0])):
                self.assertEqual(listed(story.ask(foot(number))[0]), story.standing(0, 2, number))
            self.assertEqual(story.ask(foot(0), foot(2 + story.text.count([0]))), [[-2], [-2]])

    def test_chapterend(self):
        for story in STORIES:
            for number in range(1 + story.text.count([1])):
                self.assertEqual(listed(story.ask(chapterend(number))[0]),
                                 story.standing(1, 1, number))
            self.assertEqual(story.ask(chapterend(1 + story.text.count([1]))), [[-2]])

    def test_bookend(self):
        for story in STORIES:
            self.assertEqual(listed(story.ask(bookend())[0]), story.standing(2, 0, None))

    def test_alike(self):
        for story in STORIES:
            rows = story.rows()
            pairs = [(one[0], other[0]) for at, one in enumerate(rows) for other in rows[at + 1:]
                     if one[2] == other[2] and one[4] == other[4]]
            self.assertEqual(story.ask(alike())[0],
                             [len(pairs)] + [number for pair in pairs for number in pair])

    def test_told(self):
        for story in STORIES[::5]:
            for here in story.rows():
                for one in story.rows():
                    self.assertEqual(story.ask(told_from(here[0], one[0]))[0], [
                        one[2] if one[2] != here[2] else 0,
                        one[1] if one[1] != here[1] and story.of(one[0])[0] == 1 else 0,
                        len(one[4]), *one[4]])
            self.assertEqual(story.ask(told_from(0, len(story.notes))), [[-2]])

    def test_changes(self):
        for story in STORIES:
            for own in range(len(story.series)):
                told = story.ask(*[changes(place, own) for place in range(len(story.text) + 1)])
                self.assertEqual([listed(answer) for answer in told],
                                 [story.changed(place, own) for place in range(len(story.text) + 1)])


class WhatThePromisesSay(unittest.TestCase):

    def test_every_note_is_read_once(self):
        for story in STORIES:
            read = [row[0] for row in read_in(story.ask(numbers())[0])]
            self.assertEqual(sorted(read), list(range(len(story.notes))))

    def test_each_mark_is_read_as_its_number_again(self):
        for story in STORIES:
            for row in read_in(story.ask(numbers())[0]):
                self.assertEqual(story.ask(read(story.of(row[0])[2], row[4])), [[row[3]]])

    def test_every_note_stands_in_just_one_place(self):
        for story in STORIES:
            feet = [foot(number) for number in range(1, 2 + story.text.count([0]))]
            ends = [chapterend(number) for number in range(1 + story.text.count([1]))]
            told = story.ask(*feet, *ends, bookend())
            stand = [number for answer in told for number in listed(answer)]
            self.assertEqual(sorted(stand), list(range(len(story.notes))))

    def test_numbers_go_on_without_a_gap(self):
        for story in STORIES:
            parts = {}
            for row in read_in(story.ask(numbers())[0]):
                own = story.notes[row[0]][0]
                anew = story.series[own][0]
                parts.setdefault((own, row[anew] if anew else None), []).append(row[3])
            for told in parts.values():
                self.assertEqual(told, list(range(1, len(told) + 1)))

    def test_a_further_note_changes_only_what_is_behind_it_each_by_one(self):
        for story in STORIES[::5]:
            size = len(story.notes)
            before = {row[0]: row for row in read_in(story.ask(numbers())[0])}
            for own in range(len(story.series)):
                for place in range(len(story.text) + 1):
                    text = story.items()
                    text.insert(place, call(size))
                    rows = read_in(last(*story.series_and_notes(), note(own), *text, numbers()))
                    at = [row[0] for row in rows].index(size)
                    changed = listed(story.ask(changes(place, own))[0])
                    for row in rows[:at] + rows[at + 1:]:
                        more = 1 if row[0] in changed else 0
                        self.assertEqual(row[:4], (*before[row[0]][:3], before[row[0]][3] + more))
                    behind = [row[0] for row in rows[at + 1:]]
                    self.assertEqual(changed, [number for number in behind if number in changed])


if __name__ == "__main__":
    unittest.main()
