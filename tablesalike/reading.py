"""From texts, lists of bytes, to numbers and tables, and what is refused of them."""

from tablesalike.ratio import whole_common

MINUS = 45
SLASH = 47
DIGIT_0 = 48
DIGIT_9 = 57

# the greatest whole number of 6 digits: as no zeros stand before, a greater one is written with more
MOST = 999999

# how many rows a table has, by how many numbers
ROWS = {1: 1, 4: 2, 9: 3, 16: 4}
MOST_ROWS = 4

NOT_SO_MANY = -6
WRONG_TEXT = -1
TOO_LARGE = -2


def whole_of(digits):
    """The whole number that these bytes tell, or None if they don't tell one."""
    if len(digits) == 0:
        return None
    if digits[0] == DIGIT_0 and len(digits) > 1:
        return None
    value = 0
    for digit in digits:
        if digit < DIGIT_0 or digit > DIGIT_9:
            return None
        value = value * 10 + digit - DIGIT_0
    return value


def unsigned_of(text):
    """The fraction that a text without a sign tells, or None if it isn't a number's."""
    if SLASH not in text:
        value = whole_of(text)
        return None if value is None else (value, 1)
    at = text.index(SLASH)
    top = whole_of(text[:at])
    bottom = whole_of(text[at + 1:])
    if top is None or bottom is None or bottom < 2:
        return None
    return (top, bottom) if whole_common(top, bottom) == 1 else None


def number_of(text):
    """The fraction that a text tells, or None if it isn't a number's."""
    if text[:1] != [MINUS]:
        return unsigned_of(text)
    size = unsigned_of(text[1:])
    # only a number below 0 has the sign, and 0 isn't
    if size is None or size[0] == 0:
        return None
    return (-size[0], size[1])


def numbers_of(texts):
    """The fraction of each text, None where it isn't a number's."""
    return [number_of(text) for text in texts]


def is_long(number):
    return abs(number[0]) > MOST or number[1] > MOST


def numbers_refusal(texts):
    """The refusal of texts that should be numbers', or 0 if they are."""
    numbers = numbers_of(texts)
    if None in numbers:
        return WRONG_TEXT
    if any([is_long(number) for number in numbers]):
        return TOO_LARGE
    return 0


def table_refusal(texts):
    """The refusal of texts that should be a table's numbers, or 0 if they are."""
    if len(texts) not in ROWS:
        return NOT_SO_MANY
    return numbers_refusal(texts)


def counted_refusal(n, texts, count):
    """The refusal of count texts that should be numbers', beside how many rows a table has, or 0 if there's none."""
    if n < 1 or n > MOST_ROWS or len(texts) != count:
        return NOT_SO_MANY
    return numbers_refusal(texts)


def table_of(texts):
    """The table, a list of rows, of texts that aren't refused."""
    size = ROWS[len(texts)]
    numbers = numbers_of(texts)
    return [numbers[at * size:(at + 1) * size] for at in range(size)]


def tables_of(n, texts):
    """The tables of n rows each, one behind the other, of texts that aren't refused."""
    size = n * n
    return [table_of(texts[at:at + size]) for at in range(0, len(texts), size)]
