"""How the tests tell calls and take answers apart."""

from notemarks.book import answers

NUMBERS = [0]
LETTERS = [1]
ROMAN = [2]

NEVER, WITH_CHAPTER, WITH_PAGE = range(3)
FOOT, CHAPTER_END, BOOK_END = range(3)
HIGHEST = 4294967295

PAGE = [0]
CHAPTER = [1]


def signs(*own):
    return [3, len(own), *own]


def begins():
    return [0]


def series(kind=(0,), anew=0, stand=0):
    return [1, anew, stand, len(kind), *kind]


def note(number_of_series, *calls):
    return [2, number_of_series, len(calls), *calls]


def item(what):
    return [3, len(what), *what]


def page():
    return item(PAGE)


def chapter():
    return item(CHAPTER)


def call(number):
    return item([2, number])


def mark(number, kind):
    return [4, number, len(kind), *kind]


def read(kind, row):
    return [5, len(kind) + len(row), *kind, *row]


def wrongs():
    return [6]


def numbers():
    return [7]


def foot(number):
    return [8, number]


def chapterend(number):
    return [9, number]


def bookend():
    return [10]


def alike():
    return [11]


def told_from(here, number):
    return [12, here, number]


def changes(place, number_of_series):
    return [13, place, number_of_series]


def flat(calls):
    return [number for one in calls for number in one]


def parted(told):
    """Take an answer of `answers` apart: a list for each call."""
    parts = []
    at = 0
    while at < len(told):
        size = told[at]
        part = told[at + 1:at + 1 + size]
        if size < 1 or len(part) != size:
            raise AssertionError("the answer's counts don't fit its numbers")
        parts.append(part)
        at += 1 + size
    return parts


def ask(*calls):
    """Make these calls on a new book, and give a list of answers, one a call."""
    parts = parted(answers(flat(calls)))
    if len(parts) != len(calls):
        raise AssertionError("there is not one answer for each call")
    return parts


def last(*calls):
    return ask(*calls)[-1]


def listed(answer):
    """Take what follows a count, of which there are to be as many."""
    if len(answer) != 1 + answer[0]:
        raise AssertionError("the count doesn't fit what it counts")
    return answer[1:]


def read_in(answer):
    """Take an answer of numbers apart: note, chapter, page, number, mark of each."""
    rows = []
    at = 1
    while at < len(answer):
        size = answer[at + 4]
        rows.append((*answer[at:at + 4], answer[at + 5:at + 5 + size]))
        at += 5 + size
    if at != len(answer) or len(rows) != answer[0]:
        raise AssertionError("the counts don't fit what they count")
    return rows


def codes(text):
    return [ord(sign) for sign in text]
