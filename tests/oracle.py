"""Ideals by the words of the document alone: sets of numbers, gone through one by one.

An ideal that has m, and so all multiples of it, is told by the set of its places modulo m.
"""

from itertools import product as places_of
from math import comb


def times(coefficients, one, other, m):
    width = len(coefficients)
    wide = [0] * (2 * width - 1)
    for i, a in enumerate(one):
        for j, b in enumerate(other):
            wide[i + j] += a * b
    for top in range(2 * width - 2, width - 1, -1):
        for k, c in enumerate(coefficients):
            wide[top - width + k] -= wide[top] * c
    return tuple(number % m for number in wide[:width])


def whole_ring(width, m):
    return set(places_of(range(m), repeat=width))


def units(width):
    return [tuple(int(i == j) for j in range(width)) for i in range(width)]


def made_of(coefficients, numbers, m):
    """The least set that has the numbers, all sums, and all products with the ring's."""
    width = len(coefficients)
    found = {(0,) * width}
    for number in numbers:
        for unit in units(width):
            step = times(coefficients, number, unit, m)
            if step not in found:
                found = sums(found, {tuple(k * a % m for a in step) for k in range(m)}, m)
    return found


def sums(one, other, m):
    return {tuple((a + b) % m for a, b in zip(x, y)) for x in one for y in other}


def products(coefficients, one, other, m):
    """Modulo m times m; a number of the one is of its set or differs from such by multiples of m."""
    width = len(coefficients)
    multiples = [tuple(m * a for a in unit) for unit in units(width)]
    square = m * m
    pairs = [(x, y) for x in list(one) + multiples for y in list(other) + multiples]
    return made_of(coefficients, {times(coefficients, x, y, square) for x, y in pairs}, square)


def one_by_another(coefficients, one, other, m):
    ring = whole_ring(len(coefficients), m)
    return {x for x in ring if all(times(coefficients, x, y, m) in one for y in other)}


def rows_of(numbers, width, m):
    """Each row as it's defined; it's an error where there isn't just one such."""
    own = []
    rows = []
    for i in range(width):
        level = [x for x in numbers if not any(x[i + 1:])]
        own.append(min([x[i] for x in level if x[i] > 0], default=m))
        fitting = [x for x in level if x[i] == own[i] % m and all(x[j] < own[j] for j in range(i))]
        if len(fitting) != 1:
            raise ValueError("not just one row")
        rows.append([fitting[0][j] if j < i else 0 for j in range(width)])
        rows[i][i] = own[i]
    return rows


def multiplied(one, other):
    result = [0] * (len(one) + len(other) - 1)
    for i, a in enumerate(one):
        for j, b in enumerate(other):
            result[i + j] += a * b
    return result


def partings(degree, limit):
    """The coefficients of all products of two of lower degree, where none is above the limit.

    All their roots are within 1 + limit of 0, which bounds the factors' coefficients.
    """
    found = set()
    for low in range(1, degree // 2 + 1):
        for one in with_roots_within(1 + limit, low):
            for other in with_roots_within(1 + limit, degree - low):
                whole = multiplied(one, other)[:-1]
                if all(abs(c) <= limit for c in whole):
                    found.add(tuple(whole))
    return found


def with_roots_within(bound, degree):
    """At least all polynomials with leading 1 and such roots: each coefficient is a sum
    of products of roots."""
    spans = []
    for k in range(degree):
        most = comb(degree, k) * bound ** (degree - k)
        spans.append(range(-most, most + 1))
    return [list(places) + [1] for places in places_of(*spans)]
