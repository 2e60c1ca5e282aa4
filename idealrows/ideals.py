"""Ideals, each told by its rows; the ring by c0, c1, ..."""

from idealrows.arithmetic import shifts_of, times
from idealrows.lattices import is_sum_of, numbers_below, own_numbers, rows_mapped_into, rows_of


def norm_of(rows):
    norm = 1
    for own in own_numbers(rows):
        norm = norm * own
    return norm


def ideal_made_of(coefficients, numbers):
    vectors = []
    for number in numbers:
        vectors.extend(shifts_of(coefficients, number))
    return rows_of(vectors, len(coefficients))


# The four that follow are called alike, whether they need the ring or only its width.
def sum_of(coefficients, one, other):
    return rows_of(one + other, len(coefficients))


def product(coefficients, one, other):
    vectors = []
    for row in one:
        vectors.extend([times(coefficients, row, factor) for factor in other])
    return rows_of(vectors, len(coefficients))


# A number of the one is common if it's in the other as it stands: its image is itself.
def common(coefficients, one, other):
    return rows_mapped_into(one, one, other)


# Beginning with the whole ring, each row of the other one leaves
# only those numbers whose product with it is in the one.
def by(coefficients, one, other):
    rows = shifts_of(coefficients, [1] + [0] * (len(coefficients) - 1))
    for factor in other:
        images = [times(coefficients, row, factor) for row in rows]
        rows = rows_mapped_into(rows, images, one)
    return rows


# These two are called alike, whether they need the ring or not.
def has(coefficients, rows, number):
    return is_sum_of(rows, number)


# What 0 alone makes is 0 alone, which is no ideal.
def is_made_of(coefficients, rows, number):
    return any(number) and ideal_made_of(coefficients, [number]) == rows


def holds(one, other):
    return all([is_sum_of(one, row) for row in other])


# There are finitely many classes. So where no two numbers outside the ideal have a product in it, the products
# with one of them reach all classes, that of 1 too: with the ideal it makes the whole ring. And if it does so,
# some product with it is 1 but for a number of the ideal, so what has its product with it in the ideal is in it.
def is_prime(coefficients, rows):
    outside = numbers_below(own_numbers(rows))[1:]
    for number in outside:
        if norm_of(sum_of(coefficients, rows, shifts_of(coefficients, number))) != 1:
            return False
    return len(outside) > 0
