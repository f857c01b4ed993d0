"""What the tests share: texts to bytes and back, and the same answers reckoned by other ways."""

import itertools
import math
import random
from fractions import Fraction


def told(words):
    """The lists of bytes of the texts in a row of words."""
    return [list(word.encode()) for word in words.split()]


def told_alone(text):
    """The bytes of one text, blanks and all."""
    return list(text.encode())


def shown(answer):
    """An answer's list as its first number and its texts."""
    parts = [answer[0]]
    at = 1
    while at < len(answer):
        size = answer[at]
        if at + 1 + size > len(answer):
            raise ValueError("a text runs out")
        parts.append(bytes(answer[at + 1:at + 1 + size]).decode())
        at += 1 + size
    return parts


def words_of(rows):
    return " ".join(str(Fraction(number)) for row in rows for number in row)


def product(left, right):
    return [[sum(x * y for x, y in zip(row, column)) for column in zip(*right)] for row in left]


def unit(size):
    return [[Fraction(int(i == j)) for j in range(size)] for i in range(size)]


def times_vector(rows, vector):
    return [sum(x * y for x, y in zip(row, vector)) for row in rows]


def polynomial_at(numbers, rows):
    """The polynomial, its numbers from power 0 on, of a table: power by power."""
    size = len(rows)
    total = [[Fraction(0)] * size for _ in range(size)]
    power = unit(size)
    for number in numbers:
        total = [[x + Fraction(number) * y for x, y in zip(*lines)] for lines in zip(total, power)]
        power = product(power, rows)
    return total


def rank(lines):
    """How many of the lines at most don't hang on others."""
    left = [[Fraction(x) for x in line] for line in lines]
    found = 0
    for column in range(len(left[0])):
        pivot = next((line for line in left if line[column] != 0), None)
        if pivot is not None:
            found += 1
            left.remove(pivot)
            left = [[x - line[column] / pivot[column] * y for x, y in zip(line, pivot)] for line in left]
    return found


def inverse(rows):
    """By elimination; None if there's none."""
    size = len(rows)
    work = [[Fraction(x) for x in row] + one for row, one in zip(rows, unit(size))]
    for k in range(size):
        pivot = next((i for i in range(k, size) if work[i][k] != 0), None)
        if pivot is None:
            return None
        work[k], work[pivot] = work[pivot], work[k]
        work[k] = [x / work[k][k] for x in work[k]]
        for i in range(size):
            if i != k:
                work[i] = [x - work[i][k] * y for x, y in zip(work[i], work[k])]
    return [row[size:] for row in work]


def by_other_axes(rows, axes):
    return product(product(inverse(axes), rows), axes)


def table_of_polynomial(numbers):
    """numbers: c0, c1, ..., without the 1 at the highest power."""
    size = len(numbers)
    rows = [[Fraction(int(i == j + 1)) for j in range(size)] for i in range(size)]
    for i, number in enumerate(numbers):
        rows[i][size - 1] = -Fraction(number)
    return rows


def along_diagonal(blocks):
    size = sum(len(block) for block in blocks)
    rows = [[Fraction(0)] * size for _ in range(size)]
    at = 0
    for block in blocks:
        for i, row in enumerate(block):
            rows[at + i][at:at + len(block)] = row
        at += len(block)
    return rows


def poly_times(p, q):
    result = [Fraction(0)] * (len(p) + len(q) - 1)
    for i, x in enumerate(p):
        for j, y in enumerate(q):
            result[i + j] += x * y
    return result


def written(p):
    """The text of a polynomial, its numbers from power 0 on."""
    text = ""
    for power, number in reversed(list(enumerate(p))):
        if number == 0:
            continue
        size = str(abs(number))
        if power > 0:
            letter = "x" + ("^" + str(power) if power > 1 else "")
            size = letter if size == "1" else size + "*" + letter
        if text:
            text += (" - " if number < 0 else " + ") + size
        else:
            text = ("-" if number < 0 else "") + size
    return text or "0"


def polynomial(rows):
    """The polynomial of a table, by the traces of its powers times what came before."""
    size = len(rows)
    numbers = [Fraction(1)]
    work = unit(size)
    for k in range(1, size + 1):
        step = product(rows, work)
        number = -sum(step[i][i] for i in range(size)) / Fraction(k)
        numbers.append(number)
        work = [[step[i][j] + (number if i == j else 0) for j in range(size)] for i in range(size)]
    return numbers[::-1]


def least_polynomial(rows):
    """The first power of a table that is a sum of the lower ones times numbers tells it."""
    size = len(rows)
    basis = []
    power = unit(size)
    for k in range(size + 1):
        line = [Fraction(x) for row in power for x in row]
        track = [Fraction(int(i == k)) for i in range(size + 1)]
        for pivot, other, other_track in basis:
            factor = line[pivot] / other[pivot]
            line = [x - factor * y for x, y in zip(line, other)]
            track = [x - factor * y for x, y in zip(track, other_track)]
        pivot = next((i for i, x in enumerate(line) if x != 0), None)
        if pivot is None:
            return track[:k + 1]
        basis.append((pivot, line, track))
        power = product(power, rows)
    raise AssertionError("a table solves its own polynomial")


def trim(p):
    while p and p[-1] == 0:
        p = p[:-1]
    return p


def less_times(p, factor, shift, q):
    """p less factor * x^shift * q."""
    size = max(len(p), len(q) + shift)
    result = list(p) + [Fraction(0)] * (size - len(p))
    for i, y in enumerate(q):
        result[i + shift] -= factor * y
    return trim(result)


def polynomial_rows(rows):
    size = len(rows)
    return [[trim([-Fraction(rows[i][j])] + [Fraction(int(i == j))]) for j in range(size)] for i in range(size)]


def least_place(work, k):
    size = len(work)
    places = [(len(work[i][j]), i, j) for i in range(k, size) for j in range(k, size) if work[i][j]]
    return min(places)


def bring_to_corner(work, k):
    """The entry of the least degree from row and column k on goes to the corner there."""
    _, i, j = least_place(work, k)
    work[k], work[i] = work[i], work[k]
    for row in work:
        row[k], row[j] = row[j], row[k]


def lower_row(work, k, i):
    while len(work[i][k]) >= len(work[k][k]):
        factor = work[i][k][-1] / work[k][k][-1]
        shift = len(work[i][k]) - len(work[k][k])
        work[i] = [less_times(x, factor, shift, y) for x, y in zip(work[i], work[k])]


def turned(work):
    return [list(line) for line in zip(*work)]


def left_over(work, k):
    """A row from k + 1 on with an entry that the corner at k doesn't go into, or None."""
    for i in range(k + 1, len(work)):
        for j in range(k + 1, len(work)):
            rest = work[i][j]
            while len(rest) >= len(work[k][k]):
                rest = less_times(rest, rest[-1] / work[k][k][-1], len(rest) - len(work[k][k]), work[k][k])
            if rest:
                return i
    return None


def cleared(work, k):
    """By steps that keep the forms: 0 beside and below the corner at k, which goes into all the rest."""
    while True:
        bring_to_corner(work, k)
        for turn in range(2):
            for i in range(k + 1, len(work)):
                lower_row(work, k, i)
            work = turned(work)
        if any(work[i][k] or work[k][i] for i in range(k + 1, len(work))):
            continue
        row = left_over(work, k)
        if row is None:
            return work
        work[k] = [less_times(x, Fraction(-1), 0, y) for x, y in zip(work[k], work[row])]


def forms(rows):
    """The forms, by making x less the table diagonal."""
    work = polynomial_rows(rows)
    for k in range(len(work)):
        work = cleared(work, k)
    found = [[x / work[k][k][-1] for x in work[k][k]] for k in range(len(work))]
    return [form for form in found if len(form) > 1]


def divisors(number):
    return [k for k in range(1, abs(number) + 1) if number % k == 0]


def at_place(p, place):
    return sum(number * place ** power for power, number in enumerate(p))


def fraction_roots(p):
    """The fractions at which a polynomial is 0, rising, by trying all that may be: for short numbers alone."""
    p = [Fraction(number) for number in p]
    whole = [int(number * math.lcm(*(x.denominator for x in p))) for number in p]
    lowest = next(number for number in whole if number != 0)
    tried = {Fraction(top, bottom) for top in divisors(lowest) for bottom in divisors(whole[-1])}
    return sorted(r for r in tried | {-r for r in tried} | {Fraction(0)} if at_place(p, r) == 0)


def stretched_vectors(rows, number):
    """How many vectors that the table stretches by the number don't hang on others."""
    less = [[x - (number if i == j else 0) for j, x in enumerate(row)] for i, row in enumerate(rows)]
    return len(rows) - rank(less)


def how_often(p, root):
    """How often p and its slopes, one after the other, are 0 at the root."""
    count = 0
    while at_place(p, root) == 0:
        p = [power * number for power, number in enumerate(p)][1:]
        count += 1
    return count


def different_roots(rows):
    """How many different roots a table's polynomial has, fractions or not, by the traces of the table's powers."""
    size = len(rows)
    power = unit(size)
    traces = []
    for _ in range(2 * size):
        traces.append(sum(power[i][i] for i in range(size)))
        power = product(power, rows)
    return rank([traces[i:i + size] for i in range(size)])


def cut_in_rows(numbers, size):
    return [[Fraction(number) for number in numbers[i:i + size]] for i in range(0, size * size, size)]


def small_tables_of_two_rows():
    """All of some numbers."""
    for numbers in itertools.product(("-1", "0", "1", "2", "1/2", "-2/3"), repeat=4):
        yield cut_in_rows(numbers, 2)


def tables_of_three_rows_of_0s_and_1s():
    """All."""
    for numbers in itertools.product((0, 1), repeat=9):
        yield cut_in_rows(numbers, 3)


def some_tables_of_four_rows():
    """With many 0s, so that some have several forms; the same ones every time."""
    source = random.Random(4)
    for _ in range(300):
        yield cut_in_rows([source.choice(("0", "0", "0", "1", "-1", "3/2")) for _ in range(16)], 4)


def tables_of_long_numbers():
    source = random.Random(5)
    for size in (1, 2, 3, 4) * 3:
        numbers = [
            Fraction(source.randint(-999999, 999999), source.randint(1, 999999)) for _ in range(size * size)
        ]
        yield cut_in_rows(numbers, size)


def tables_of_short_numbers():
    yield from small_tables_of_two_rows()
    yield from tables_of_three_rows_of_0s_and_1s()
    yield from some_tables_of_four_rows()


def sample_tables():
    yield from tables_of_short_numbers()
    yield from tables_of_long_numbers()


FACTORS = (
    [Fraction(0), Fraction(1)],
    [Fraction(-1, 2), Fraction(1)],
    [Fraction(2), Fraction(1)],
    [Fraction(1), Fraction(0), Fraction(1)],
    [Fraction(-2), Fraction(0), Fraction(1)],
)
AXES = {
    1: [[[3]]],
    2: [[[1, 2], [0, 1]], [[2, 1], [1, 1]], [[0, 3], [1, 1]]],
    3: [[[1, 2, 0], [0, 1, -1], [1, 0, 1]], [[0, 0, 1], [1, 1, 0], [0, 2, 1]]],
    4: [[[1, 0, 2, 0], [1, 1, 0, 0], [0, 0, 1, 3], [0, 1, 0, 1]], [[0, 1, 0, 0], [1, 0, 1, 0], [0, 1, 1, 1], [1, 1, 1, 2]]],
}


def product_of(polys):
    result = [Fraction(1)]
    for p in polys:
        result = poly_times(result, p)
    return result


def multiples(p, degree):
    """p times factors, of at most that degree, without 1."""
    for count in range(degree + 1):
        for picked in itertools.combinations_with_replacement(FACTORS, count):
            multiple = product_of((p,) + picked)
            if 1 < len(multiple) <= degree + 1:
                yield multiple


def chains(size, before=(Fraction(1),)):
    """Lists of polynomials, each going into the next one, with degrees that add up to size."""
    if size == 0:
        return [[]]
    found = []
    for form in multiples(list(before), size):
        found.extend([form] + behind for behind in chains(size - len(form) + 1, form))
    return found


def plain(forms):
    """The table with the tables of these polynomials along its diagonal."""
    return along_diagonal([table_of_polynomial(form[:-1]) for form in forms])
