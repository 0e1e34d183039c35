"""Reading a book with whose notes nothing is wrong, from its beginning on."""

from notemarks.marks import mark_of
from notemarks.store import ANEW_WITH_CHAPTER, ANEW_WITH_PAGE, CHAPTER_BEGINS, PAGE_BEGINS


class ReadNote:
    """A note as it's read: the number of its series, its place, its number, its mark."""

    def __init__(self, note, series, chapter, page, number, mark):
        self.note = note
        self.series = series
        self.chapter = chapter
        self.page = page
        self.number = number
        self.mark = mark


def read_within(book, first):
    """Give the notes that are read where first is called, it ahead of them."""
    found = []
    waiting = [first]
    while len(waiting) > 0:
        note = waiting.pop()
        found.append(note)
        # What a note calls is read ahead of all that was waiting before.
        waiting.extend(list(reversed(book.notes[note].calls)))
    return found


def placed_notes(book):
    """Give, in the order of reading, each note with its chapter and its page."""
    chapter = 0
    page = 1
    found = []
    for what in book.text:
        if what[0] == PAGE_BEGINS:
            page += 1
        elif what[0] == CHAPTER_BEGINS:
            chapter += 1
        else:
            found.extend([(note, chapter, page) for note in read_within(book, what[1])])
    return found


def part_of(anew, chapter, page):
    """Give the part of the book in which numbers go on that begin anew so."""
    if anew == ANEW_WITH_CHAPTER:
        return chapter
    if anew == ANEW_WITH_PAGE:
        return page
    return 0


def notes_read(book):
    """Give each note, in the order of reading, with its number and its mark."""
    counts = {}
    found = []
    for note, chapter, page in placed_notes(book):
        own = book.notes[note].series
        series = book.series[own]
        counted = (own, part_of(series.anew, chapter, page))
        number = counts.get(counted, 0) + 1
        counts[counted] = number
        mark = mark_of(number, series.kind)
        found.append(ReadNote(note, own, chapter, page, number, mark))
    return found


def numbers_of(book):
    """Give a dict of each note's number."""
    numbers = {}
    for one in notes_read(book):
        numbers[one.note] = one.number
    return numbers
