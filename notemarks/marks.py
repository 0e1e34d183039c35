"""Marks: the rows of signs that stand for the numbers from 1 to 999.

A kind is a list as it is handed in: 0, 1 or 2 alone; or 3, how many signs,
and these.
"""

DIGITS = 0
LETTERS = 1
ROMAN = 2
SIGNS = 3

FIRST_NUMBER = 1
LAST_NUMBER = 999
MOST_SIGNS = 8
LAST_SIGN = 65535

ZERO_DIGIT = 48
FIRST_LETTER = 97
ALPHABET = 26

ROMAN_STEPS = (
    (900, "cm"),
    (500, "d"),
    (400, "cd"),
    (100, "c"),
    (90, "xc"),
    (50, "l"),
    (40, "xl"),
    (10, "x"),
    (9, "ix"),
    (5, "v"),
    (4, "iv"),
    (1, "i"),
)


def kind_size(row):
    """Tell how many numbers at the beginning of row are its kind."""
    if row[0] == SIGNS:
        return 2 + row[1]
    return 1


def kind_fits(kind):
    """Tell whether a kind's signs, if it has its own, are such as may be."""
    if kind[0] != SIGNS:
        return True
    signs = kind[2:]
    if len(signs) < 1 or len(signs) > MOST_SIGNS:
        return False
    if len(set(signs)) != len(signs):
        return False
    return all([1 <= sign <= LAST_SIGN for sign in signs])


def has_mark(number):
    """Tell whether number is one of those that have a mark."""
    return FIRST_NUMBER <= number <= LAST_NUMBER


def codes(text):
    """Give the Unicode numbers of a text's signs."""
    return [ord(sign) for sign in text]


def letters_of(number):
    """Give the letters of number: a to z, then aa, ab, and so on."""
    backwards = []
    left = number
    while left > 0:
        # There is no letter for nothing, so each place counts from 1.
        left -= 1
        backwards.append(FIRST_LETTER + left % ALPHABET)
        left = left // ALPHABET
    return list(reversed(backwards))


def roman_of(number):
    """Give the small Roman numeral of number."""
    mark = []
    left = number
    for worth, text in ROMAN_STEPS:
        while left >= worth:
            mark.extend(codes(text))
            left -= worth
    return mark


def signs_of(number, signs):
    """Give the sign that number comes to, as often as the signs have begun."""
    place = (number - 1) % len(signs)
    times = (number - 1) // len(signs) + 1
    return [signs[place]] * times


def mark_of(number, kind):
    """Give the mark of number, which is from 1 to 999, in a kind that fits."""
    if kind[0] == DIGITS:
        return codes(str(number))
    if kind[0] == LETTERS:
        return letters_of(number)
    if kind[0] == ROMAN:
        return roman_of(number)
    return signs_of(number, kind[2:])


def places_worth(mark, base, below):
    """Give what mark is worth, place by place; below is the sign ahead of 1's."""
    worth = 0
    for sign in mark:
        worth = worth * base + sign - below
    return worth


def roman_worth(mark):
    """Give what the Roman steps at the beginning of mark are worth."""
    worth = 0
    at = 0
    for step, text in ROMAN_STEPS:
        row = codes(text)
        while mark[at:at + len(row)] == row:
            worth += step
            at += len(row)
    return worth


def signs_worth(mark, signs):
    """Give what mark is worth by its first sign and its length, or 0."""
    if len(mark) == 0 or mark[0] not in signs:
        return 0
    return (len(mark) - 1) * len(signs) + signs.index(mark[0]) + 1


def worth_of(mark, kind):
    """Give the one number whose mark this can be, if it is a mark at all."""
    if kind[0] == DIGITS:
        return places_worth(mark, 10, ZERO_DIGIT)
    if kind[0] == LETTERS:
        return places_worth(mark, ALPHABET, FIRST_LETTER - 1)
    if kind[0] == ROMAN:
        return roman_worth(mark)
    return signs_worth(mark, kind[2:])


def number_of(mark, kind):
    """Give the number from 1 to 999 whose mark this is, or 0 if there is none."""
    number = worth_of(mark, kind)
    # What is worth a number may still be no mark: only its one form is.
    if has_mark(number) and mark_of(number, kind) == mark:
        return number
    return 0
