"""How the tests tell calls and take answers apart."""

from notemarks.book import answers

NUMBERS = [0]
LETTERS = [1]
ROMAN = [2]

PAGE = [0]
CHAPTER = [1]


def signs(*own):
    return [3, len(own), *own]


def begins():
    return [0]


def series(kind=(0,), anew=0, stand=0):
    return [1, anew, stand, len(kind), *kind]


def note(number_of_series, *calls):
    return [2, number_of_series, len(calls), *calls]


def item(what):
    return [3, len(what), *what]


def page():
    return item(PAGE)


def chapter():
    return item(CHAPTER)


def call(number):
    return item([2, number])


def mark(number, kind):
    return [4, number, len(kind), *kind]


def read(kind, row):
    return [5, len(kind) + len(row), *kind, *row]


def wrongs():
    return [6]


def flat(calls):
    return [number for one in calls for number in one]


def parted(told):
    """Take an answer of `answers` apart: a list for each call."""
    parts = []
    at = 0
    while at < len(told):
        size = told[at]
        part = told[at + 1:at + 1 + size]
        if size < 1 or len(part) != size:
            raise AssertionError("the answer's counts don't fit its numbers")
        parts.append(part)
        at += 1 + size
    return parts


def ask(*calls):
    """Make these calls on a new book, and give a list of answers, one a call."""
    parts = parted(answers(flat(calls)))
    if len(parts) != len(calls):
        raise AssertionError("there is not one answer for each call")
    return parts


def last(*calls):
    return ask(*calls)[-1]


def codes(text):
    return [ord(sign) for sign in text]
