"""Notes compared: alike marks, one told from another's place, what one more changes."""

from notemarks.reading import notes_read, numbers_of
from notemarks.store import ANEW_WITH_CHAPTER


def alike_pairs(book):
    """Give pairs of notes on one page with alike marks, in the order of reading."""
    read = notes_read(book)
    found = []
    for place, first in enumerate(read):
        for other in read[place + 1:]:
            if first.page == other.page and first.mark == other.mark:
                found.append((first.note, other.note))
    return found


def read_note(book, note):
    """Give a note that's there as it's read."""
    return [one for one in notes_read(book) if one.note == note][0]


def told_from(book, here, note):
    """Tell a note from the place of here: its page or 0, its chapter or 0, its mark."""
    place = read_note(book, here)
    one = read_note(book, note)
    page = 0
    if one.page != place.page:
        page = one.page
    chapter = 0
    if book.series[one.series].anew == ANEW_WITH_CHAPTER and one.chapter != place.chapter:
        chapter = one.chapter
    return [page, chapter, len(one.mark)] + one.mark


def changed_by(book, place, series):
    """Give the notes whose number a further note, called ahead of item place, changes."""
    numbers = numbers_of(book.with_further_note(place, series))
    return [one.note for one in notes_read(book) if numbers[one.note] != one.number]
