"""The calls on a book and their answers."""

from notemarks.marks import has_mark, kind_fits, kind_size, mark_of, number_of
from notemarks.reader import Reader
from notemarks.store import Book
from notemarks.wrongs import wrongs_of


def answer_begins(book, reader):
    """Make the book as it is at its beginning."""
    book.begin()
    return [0]


def answer_series(book, reader):
    """Take a series."""
    anew = reader.take()
    stand = reader.take()
    kind = reader.take_row()
    return [book.add_series(anew, stand, kind)]


def answer_note(book, reader):
    """Take a note."""
    series = reader.take()
    calls = reader.take_row()
    return [book.add_new_note(series, calls)]


def answer_item(book, reader):
    """Take an item of the text."""
    return [book.add_item(reader.take_row())]


def answer_mark(book, reader):
    """Tell the mark of a number."""
    number = reader.take()
    kind = reader.take_row()
    if not has_mark(number) or not kind_fits(kind):
        return [-1]
    mark = mark_of(number, kind)
    return [len(mark)] + mark


def answer_read(book, reader):
    """Tell the number of a mark."""
    row = reader.take_row()
    size = kind_size(row)
    kind = row[:size]
    if not kind_fits(kind):
        return [-1]
    number = number_of(row[size:], kind)
    if number == 0:
        return [-6]
    return [number]


def answer_wrongs(book, reader):
    """Tell what is wrong with the notes."""
    found = wrongs_of(book)
    answer = [len(found)]
    for which, note in found:
        answer.append(which)
        answer.append(note)
    return answer


# A call's number is its place here.
CALLS = (
    answer_begins,
    answer_series,
    answer_note,
    answer_item,
    answer_mark,
    answer_read,
    answer_wrongs,
)


def answers(calls):
    """Answer each call in order: how many numbers, then these."""
    book = Book()
    reader = Reader(calls)
    told = []
    while reader.has_more():
        take_call = CALLS[reader.take()]
        answer = take_call(book, reader)
        told.append(len(answer))
        told.extend(answer)
    return told
