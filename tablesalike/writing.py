"""From numbers and polynomials to texts, and from texts to an answer's list."""

from tablesalike.ratio import ONE


def number_text(number):
    text = str(number[0])
    return text if number[1] == 1 else text + "/" + str(number[1])


def term_text(size, power):
    """A number above 0 and its power, without a sign."""
    if power == 0:
        return number_text(size)
    letter = "x" if power == 1 else f"x^{power}"
    return letter if size == ONE else number_text(size) + "*" + letter


def sign_text(below, leads):
    if leads:
        return "-" if below else ""
    return " - " if below else " + "


def poly_text(p):
    if len(p) == 0:
        return "0"
    text = ""
    for power in range(len(p) - 1, -1, -1):
        top = p[power][0]
        if top != 0:
            size = (abs(top), p[power][1])
            text = text + sign_text(top < 0, text == "") + term_text(size, power)
    return text


def table_answer(table):
    """How many rows the table has, then its numbers, row by row."""
    texts = []
    for row in table:
        texts.extend([number_text(number) for number in row])
    return answer(len(table), texts)


def answer(first, texts):
    """The number, then of each text how many bytes it has and its bytes."""
    told = [first]
    for text in texts:
        told.append(len(text))
        told.extend([ord(sign) for sign in text])
    return told
