"""What is wrong with a book's notes."""

NOBODY_CALLS = 1
CALLED_OFTEN = 2
NOT_LED_TO = 3
NOT_THERE = 4


def all_calls(book):
    """Give each call of a note: the text's, then those of notes in order."""
    calls = book.text_calls()
    for note in book.notes:
        calls.extend(note.calls)
    return calls


def led_to(book):
    """Give, as a dict's keys, the notes to which calls lead from the text on."""
    reached = {}
    waiting = book.text_calls()
    while len(waiting) > 0:
        note = waiting.pop()
        if note < len(book.notes) and note not in reached:
            reached[note] = True
            waiting.extend(book.notes[note].calls)
    return reached


def missing_notes(book, calls):
    """Give the notes among calls that aren't there, each once."""
    missing = []
    for note in calls:
        if note >= len(book.notes) and note not in missing:
            missing.append(note)
    return missing


def wrong_with(note, calls, reached):
    """Give the first wrong, 1 to 3, of a note that's there, or 0."""
    times = calls.count(note)
    if times == 0:
        return NOBODY_CALLS
    if times > 1:
        return CALLED_OFTEN
    if note not in reached:
        return NOT_LED_TO
    return 0


def wrongs_of(book):
    """Give pairs, in the order told: which of the four is wrong, and the note."""
    calls = all_calls(book)
    reached = led_to(book)
    found = []
    for note in range(len(book.notes)):
        which = wrong_with(note, calls, reached)
        if which != 0:
            found.append((which, note))
    for note in missing_notes(book, calls):
        found.append((NOT_THERE, note))
    return found


def is_wrong(book):
    """Tell whether anything is wrong with the book's notes."""
    return len(wrongs_of(book)) > 0
