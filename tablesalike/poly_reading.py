"""From a text, a list of bytes, to a polynomial, and what is refused of it.

A term is a tuple: its number and its power.
"""

from tablesalike.poly import trimmed
from tablesalike.ratio import ONE, ZERO, ratio_minus
from tablesalike.reading import DIGIT_0, MINUS, TOO_LARGE, WRONG_TEXT, is_long, unsigned_of, whole_of

BLANK = 32
STAR = 42
PLUS = 43
CARET = 94
LETTER_X = 120

HIGHEST = 8


def power_of(text):
    """The power that is told behind the letter, or None if the text doesn't tell one."""
    if len(text) == 0:
        return 1
    if text[0] != CARET:
        return None
    power = whole_of(text[1:])
    return None if power is None or power < 2 else power


def factor_of(text):
    """The number that is told ahead of the letter, or None if the text doesn't tell one."""
    if len(text) == 0:
        return ONE
    if text[-1] != STAR:
        return None
    number = unsigned_of(text[:-1])
    # ahead of the letter 1 isn't written
    return None if number == ONE else number


def term_of(piece):
    """The term that a text without a sign tells, or None if it isn't a term's."""
    if LETTER_X in piece:
        at = piece.index(LETTER_X)
        number = factor_of(piece[:at])
        power = power_of(piece[at + 1:])
    else:
        number = unsigned_of(piece)
        power = 0
    if number is None or number == ZERO or power is None:
        return None
    return (number, power)


def pieces_of(text):
    """What stands between the blanks, bare places too."""
    pieces = [[]]
    for byte in text:
        if byte == BLANK:
            pieces.append([])
        else:
            pieces[-1].append(byte)
    return pieces


def signed_pieces(text):
    """For each term whether it's below 0 and its text without a sign; None if the signs don't stand as they must."""
    pieces = pieces_of(text)
    first = pieces[0]
    found = [(True, first[1:]) if first[:1] == [MINUS] else (False, first)]
    if len(pieces) % 2 == 0:
        # a sign without a term behind it
        return None
    for at in range(1, len(pieces), 2):
        if pieces[at] != [PLUS] and pieces[at] != [MINUS]:
            return None
        found.append((pieces[at] == [MINUS], pieces[at + 1]))
    return found


def falling(powers):
    """Whether each is below the one before."""
    return all([low < high for high, low in zip(powers, powers[1:])])


def terms_of(text):
    """The terms of a polynomial, the higher powers first, or None if the text isn't a polynomial's; 0 has none."""
    if text == [DIGIT_0]:
        return []
    signed = signed_pieces(text)
    if signed is None:
        return None
    terms = []
    for below, piece in signed:
        term = term_of(piece)
        if term is None:
            return None
        terms.append((ratio_minus(term[0]), term[1]) if below else term)
    return terms if falling([term[1] for term in terms]) else None


def poly_refusal(text):
    """The refusal of a text that should be a polynomial's, or 0 if there's none."""
    terms = terms_of(text)
    if terms is None:
        return WRONG_TEXT
    if any([term[1] > HIGHEST or is_long(term[0]) for term in terms]):
        return TOO_LARGE
    return 0


def poly_of(text):
    """The polynomial of a text that isn't refused."""
    numbers = [ZERO] * (HIGHEST + 1)
    for number, power in terms_of(text):
        numbers[power] = number
    return trimmed(numbers)
