"""Ideals by the words of the document alone: sets of numbers, gone through one by one.

An ideal that has m, and so all multiples of it, is told by the set of its places modulo m.
"""

from functools import cmp_to_key
from itertools import permutations, product as places_of
from math import comb, prod


def times(coefficients, one, other, m):
    width = len(coefficients)
    wide = [0] * (2 * width - 1)
    for i, a in enumerate(one):
        for j, b in enumerate(other):
            wide[i + j] += a * b
    for top in range(2 * width - 2, width - 1, -1):
        for k, c in enumerate(coefficients):
            wide[top - width + k] -= wide[top] * c
    return tuple(number % m for number in wide[:width])


def whole_ring(width, m):
    return set(places_of(range(m), repeat=width))


def units(width):
    return [tuple(int(i == j) for j in range(width)) for i in range(width)]


def made_of(coefficients, numbers, m):
    """The least set that has the numbers, all sums, and all products with the ring's."""
    width = len(coefficients)
    found = {(0,) * width}
    for number in numbers:
        for unit in units(width):
            step = times(coefficients, number, unit, m)
            if step not in found:
                found = sums(found, {tuple(k * a % m for a in step) for k in range(m)}, m)
    return found


def sums(one, other, m):
    return {tuple((a + b) % m for a, b in zip(x, y)) for x in one for y in other}


def products(coefficients, one, other, m):
    """Modulo m times m; a number of the one is of its set or differs from such by multiples of m."""
    width = len(coefficients)
    multiples = [tuple(m * a for a in unit) for unit in units(width)]
    square = m * m
    pairs = [(x, y) for x in list(one) + multiples for y in list(other) + multiples]
    return made_of(coefficients, {times(coefficients, x, y, square) for x, y in pairs}, square)


def one_by_another(coefficients, one, other, m):
    ring = whole_ring(len(coefficients), m)
    return {x for x in ring if all(times(coefficients, x, y, m) in one for y in other)}


def rows_of(numbers, width, m):
    """Each row as it's defined; it's an error where there isn't just one such."""
    own = []
    rows = []
    for i in range(width):
        level = [x for x in numbers if not any(x[i + 1:])]
        own.append(min([x[i] for x in level if x[i] > 0], default=m))
        fitting = [x for x in level if x[i] == own[i] % m and all(x[j] < own[j] for j in range(i))]
        if len(fitting) != 1:
            raise ValueError("not just one row")
        rows.append([fitting[0][j] if j < i else 0 for j in range(width)])
        rows[i][i] = own[i]
    return rows


def exact_times(coefficients, one, other):
    m = 10 ** 60
    return [a if a < m // 2 else a - m for a in times(coefficients, one, other, m)]


def norm_of_set(numbers, width, m):
    """How many classes there are."""
    return m ** width // len(numbers)


def is_prime(coefficients, numbers, m):
    """Goes through the products of any two classes; one number stands for each class."""
    width = len(coefficients)
    ones = []
    for x in places_of(range(m), repeat=width):
        if not any(tuple((a - b) % m for a, b in zip(x, y)) in numbers for y in ones):
            ones.append(x)
    outside = [x for x in ones if x not in numbers]
    return outside != [] and not any(times(coefficients, x, y, m) in numbers for x in outside for y in outside)


def ideals_that_have(coefficients, m):
    """All ideals that have m: those made of m and one number, then all sums of such."""
    width = len(coefficients)
    of_one = {frozenset(made_of(coefficients, [x], m)) for x in places_of(range(m), repeat=width)}
    found = set(of_one)
    left = list(of_one)
    while left:
        one = left.pop()
        for other in of_one:
            whole = one if other <= one else frozenset(sums(one, other, m))
            if whole not in found:
                found.add(whole)
                left.append(whole)
    return found


def ideals_of_norm(coefficients, m):
    """Their rows. Each has m: so many times any number is in the ideal, if m is how many classes there are."""
    width = len(coefficients)
    fitting = [one for one in ideals_that_have(coefficients, m) if norm_of_set(one, width, m) == m]
    return in_order([rows_of(one, width, m) for one in fitting])


def in_order(ideals):
    return sorted(ideals, key=cmp_to_key(which_first))


def which_first(one, other):
    """The own places tell first, then all places."""
    for i in range(len(one)):
        if one[i][i] != other[i][i]:
            return one[i][i] - other[i][i]
    for i in range(len(one)):
        for j in range(len(one)):
            if one[i][j] != other[i][j]:
                return one[i][j] - other[i][j]
    return 0


def norm_by_rows(rows):
    return prod(row[i] for i, row in enumerate(rows))


def is_sum_of_rows(rows, number):
    number = list(number)
    for place in range(len(rows) - 1, -1, -1):
        factor, rest = divmod(number[place], rows[place][place])
        if rest != 0:
            return False
        number = [a - factor * b for a, b in zip(number, rows[place])]
    return True


def is_ideal(coefficients, rows):
    t = [0, 1] + [0] * (len(rows) - 2)
    return all(is_sum_of_rows(rows, exact_times(coefficients, t, row)) for row in rows)


def forms_of_norm(norm, width):
    """All rows in the form that rows have, of an ideal or not, whose product at their own places is the norm."""
    for own in places_of([d for d in range(1, norm + 1) if norm % d == 0], repeat=width):
        if prod(own) == norm:
            choices = [list(places_of(*[range(d) for d in own[:i]])) for i in range(width)]
            for aheads in places_of(*choices):
                yield [[*ahead, own[i]] + [0] * (width - 1 - i) for i, ahead in enumerate(aheads)]


def ideals_of_norm_by_forms(coefficients, norm):
    return in_order([rows for rows in forms_of_norm(norm, len(coefficients)) if is_ideal(coefficients, rows)])


def norm_of_number(coefficients, number):
    """Of the ideal made of it alone: the determinant of what takes each number to its product with it."""
    table = [exact_times(coefficients, unit, number) for unit in units(len(coefficients))]
    total = 0
    for order in permutations(range(len(table))):
        swaps = sum(1 for i, a in enumerate(order) for b in order[:i] if b > a)
        total += (-1) ** swaps * prod(table[i][k] for i, k in enumerate(order))
    return abs(total)


def multiplied(one, other):
    result = [0] * (len(one) + len(other) - 1)
    for i, a in enumerate(one):
        for j, b in enumerate(other):
            result[i + j] += a * b
    return result


def partings(degree, limit):
    """The coefficients of all products of two of lower degree, where none is above the limit.

    All their roots are within 1 + limit of 0, which bounds the factors' coefficients.
    """
    found = set()
    for low in range(1, degree // 2 + 1):
        for one in with_roots_within(1 + limit, low):
            for other in with_roots_within(1 + limit, degree - low):
                whole = multiplied(one, other)[:-1]
                if all(abs(c) <= limit for c in whole):
                    found.add(tuple(whole))
    return found


def with_roots_within(bound, degree):
    """At least all polynomials with leading 1 and such roots: each coefficient is a sum
    of products of roots."""
    spans = []
    for k in range(degree):
        most = comb(degree, k) * bound ** (degree - k)
        spans.append(range(-most, most + 1))
    return [list(places) + [1] for places in places_of(*spans)]
