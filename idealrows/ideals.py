"""Ideals, each told by its rows; the ring by c0, c1, ..."""

from idealrows.arithmetic import shifts_of, times
from idealrows.lattices import rows_mapped_into, rows_of


def norm_of(rows):
    norm = 1
    for place, row in enumerate(rows):
        norm = norm * row[place]
    return norm


def ideal_made_of(coefficients, numbers):
    vectors = []
    for number in numbers:
        vectors.extend(shifts_of(coefficients, number))
    return rows_of(vectors, len(coefficients))


# The four that follow are called alike, whether they need the ring or only its width.
def sum_of(coefficients, one, other):
    return rows_of(one + other, len(coefficients))


def product(coefficients, one, other):
    vectors = []
    for row in one:
        vectors.extend([times(coefficients, row, factor) for factor in other])
    return rows_of(vectors, len(coefficients))


# A number of the one is common if it's in the other as it stands: its image is itself.
def common(coefficients, one, other):
    return rows_mapped_into(one, one, other)


# Beginning with the whole ring, each row of the other one leaves
# only those numbers whose product with it is in the one.
def by(coefficients, one, other):
    rows = shifts_of(coefficients, [1] + [0] * (len(coefficients) - 1))
    for factor in other:
        images = [times(coefficients, row, factor) for row in rows]
        rows = rows_mapped_into(rows, images, one)
    return rows
