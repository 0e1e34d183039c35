"""The calls on a book and their answers."""

from notemarks.compared import alike_pairs, changed_by, told_from
from notemarks.marks import has_mark, kind_fits, kind_size, mark_of, number_of
from notemarks.reader import Reader
from notemarks.reading import notes_read
from notemarks.standing import notes_at_book_end, notes_at_chapter_end, notes_at_foot
from notemarks.store import MOST_NOTES, Book
from notemarks.wrongs import is_wrong, wrongs_of


def counted(notes):
    """Give the answer that tells how many notes, then they."""
    return [len(notes)] + notes


def paired(pairs):
    """Give the answer that tells how many pairs, then they."""
    answer = [len(pairs)]
    for first, second in pairs:
        answer.append(first)
        answer.append(second)
    return answer


def answer_begins(book, reader):
    """Make the book as it is at its beginning."""
    book.begin()
    return [0]


def answer_series(book, reader):
    """Take a series."""
    anew = reader.take()
    stand = reader.take()
    kind = reader.take_row()
    return [book.add_series(anew, stand, kind)]


def answer_note(book, reader):
    """Take a note."""
    series = reader.take()
    calls = reader.take_row()
    return [book.add_new_note(series, calls)]


def answer_item(book, reader):
    """Take an item of the text."""
    return [book.add_item(reader.take_row())]


def answer_mark(book, reader):
    """Tell the mark of a number."""
    number = reader.take()
    kind = reader.take_row()
    if not has_mark(number) or not kind_fits(kind):
        return [-1]
    mark = mark_of(number, kind)
    return [len(mark)] + mark


def answer_read(book, reader):
    """Tell the number of a mark."""
    row = reader.take_row()
    size = kind_size(row)
    kind = row[:size]
    if not kind_fits(kind):
        return [-1]
    number = number_of(row[size:], kind)
    if number == 0:
        return [-6]
    return [number]


def answer_wrongs(book, reader):
    """Tell what is wrong with the notes."""
    return paired(wrongs_of(book))


def answer_numbers(book, reader):
    """Tell of each note where it is read, its number and its mark."""
    if is_wrong(book):
        return [-7]
    found = notes_read(book)
    answer = [len(found)]
    for one in found:
        answer.extend([one.note, one.chapter, one.page, one.number, len(one.mark)])
        answer.extend(one.mark)
    return answer


def answer_foot(book, reader):
    """Tell the notes at a page's foot."""
    page = reader.take()
    if is_wrong(book):
        return [-7]
    if page < 1 or page > book.last_page():
        return [-2]
    return counted(notes_at_foot(book, page))


def answer_chapterend(book, reader):
    """Tell the notes at a chapter's end."""
    chapter = reader.take()
    if is_wrong(book):
        return [-7]
    if chapter > book.last_chapter():
        return [-2]
    return counted(notes_at_chapter_end(book, chapter))


def answer_bookend(book, reader):
    """Tell the notes at the book's end."""
    if is_wrong(book):
        return [-7]
    return counted(notes_at_book_end(book))


def answer_alike(book, reader):
    """Tell the pairs of notes on one page whose marks are alike."""
    if is_wrong(book):
        return [-7]
    return paired(alike_pairs(book))


def answer_told(book, reader):
    """Tell one note from another one's place."""
    here = reader.take()
    note = reader.take()
    if is_wrong(book):
        return [-7]
    if here >= len(book.notes) or note >= len(book.notes):
        return [-2]
    return told_from(book, here, note)


def answer_changes(book, reader):
    """Tell the notes that would have another number if there were a further one."""
    place = reader.take()
    series = reader.take()
    if is_wrong(book):
        return [-7]
    if place > len(book.text) or series >= len(book.series):
        return [-2]
    if len(book.notes) == MOST_NOTES:
        return [-5]
    return counted(changed_by(book, place, series))


# A call's number is its place here.
CALLS = (
    answer_begins,
    answer_series,
    answer_note,
    answer_item,
    answer_mark,
    answer_read,
    answer_wrongs,
    answer_numbers,
    answer_foot,
    answer_chapterend,
    answer_bookend,
    answer_alike,
    answer_told,
    answer_changes,
)


def answers(calls):
    """Answer each call in order: how many numbers, then these."""
    book = Book()
    reader = Reader(calls)
    told = []
    while reader.has_more():
        take_call = CALLS[reader.take()]
        answer = take_call(book, reader)
        told.append(len(answer))
        told.extend(answer)
    return told
