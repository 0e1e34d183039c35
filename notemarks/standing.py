"""Where the notes of a book stand: at a page's foot, a chapter's end, the book's."""

from notemarks.reading import notes_read
from notemarks.store import AT_BOOK_END, AT_CHAPTER_END, AT_FOOT


def standing(book, stand):
    """Give the notes that stand so: series by series, each as they're read."""
    read = notes_read(book)
    found = []
    for number, series in enumerate(book.series):
        if series.stand == stand:
            found.extend([one for one in read if one.series == number])
    return found


def notes_at_foot(book, page):
    """Give the notes at the foot of page."""
    return [one.note for one in standing(book, AT_FOOT) if one.page == page]


def notes_at_chapter_end(book, chapter):
    """Give the notes at the end of chapter."""
    return [one.note for one in standing(book, AT_CHAPTER_END) if one.chapter == chapter]


def notes_at_book_end(book):
    """Give the notes at the book's end."""
    return [one.note for one in standing(book, AT_BOOK_END)]
