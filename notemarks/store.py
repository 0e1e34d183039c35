"""What a book holds: its series, its notes and its text."""

from notemarks.marks import kind_fits

MOST_SERIES = 4
MOST_NOTES = 30
MOST_CALLS = 8
MOST_ITEMS = 100

# What an item is.
PAGE_BEGINS = 0
CHAPTER_BEGINS = 1
NOTE_CALLED = 2

# With what a series' numbers begin anew, if they do.
ANEW_WITH_CHAPTER = 1
ANEW_WITH_PAGE = 2

# Where a series' notes stand.
AT_FOOT = 0
AT_CHAPTER_END = 1
AT_BOOK_END = 2


class Series:
    """A series of notes: where it begins anew, where it stands, its kind."""

    def __init__(self, anew, stand, kind):
        self.anew = anew
        self.stand = stand
        self.kind = kind


class Note:
    """A note: the number of its series, and the notes that it calls."""

    def __init__(self, series, calls):
        self.series = series
        self.calls = calls


class Book:
    """A book: each list is in the order in which its things were told."""

    def __init__(self):
        self.begin()

    def begin(self):
        """Make the book as it is at its beginning."""
        self.series = []
        self.notes = []
        self.text = []

    def add_series(self, anew, stand, kind):
        """Add a series and give its number, or a refusal."""
        if not kind_fits(kind):
            return -1
        if len(self.series) == MOST_SERIES:
            return -5
        self.series.append(Series(anew, stand, kind))
        return len(self.series) - 1

    def add_new_note(self, series, calls):
        """Add a note and give its number, or a refusal."""
        if series >= len(self.series) or len(calls) > MOST_CALLS:
            return -1
        if not all([may_be_note(note) for note in calls]):
            return -1
        if len(self.notes) == MOST_NOTES:
            return -5
        self.notes.append(Note(series, calls))
        return len(self.notes) - 1

    def add_item(self, what):
        """Add an item to the text and give its number, or a refusal."""
        if what[0] == NOTE_CALLED and not may_be_note(what[1]):
            return -1
        if len(self.text) == MOST_ITEMS:
            return -5
        self.text.append(what)
        return len(self.text) - 1

    def text_calls(self):
        """Give a new list of the notes that the text calls, in order."""
        return [what[1] for what in self.text if what[0] == NOTE_CALLED]

    def last_page(self):
        """Give the last page's number; the first page, 1, is ahead of all items."""
        return 1 + len([what for what in self.text if what[0] == PAGE_BEGINS])

    def last_chapter(self):
        """Give the last chapter's number, or 0 where no chapter begins."""
        return len([what for what in self.text if what[0] == CHAPTER_BEGINS])

    def with_further_note(self, place, series):
        """Give another book: this one, and a note more, called ahead of item place."""
        other = Book()
        other.series = list(self.series)
        other.notes = self.notes + [Note(series, [])]
        further = [NOTE_CALLED, len(self.notes)]
        other.text = self.text[:place] + [further] + self.text[place:]
        return other


def may_be_note(number):
    """Tell whether a note may have this number, be it there yet or not."""
    return number < MOST_NOTES
