"""Rows of all the sums of some vectors, brought into the one form there is."""

from idealrows.arithmetic import minus_times


# Euclid's steps on two vectors: the sums stay the same ones,
# and at the end the second of the two has 0 at the place.
def cleared_at(one, other, place):
    upper = one
    lower = other
    while lower[place] != 0:
        rest = minus_times(upper, upper[place] // lower[place], lower)
        upper = lower
        lower = rest
    return [upper, lower]


# One vector for the place, then those that have 0 there and with it give all the sums.
def row_and_others(vectors, place):
    row = vectors[0]
    others = []
    for vector in vectors[1:]:
        pair = cleared_at(row, vector, place)
        row = pair[0]
        others.append(pair[1])
    if row[place] < 0:
        row = [-number for number in row]
    return [row] + others


# From the nearest place ahead downwards: taking rj away changes only the places up to j.
def lessened(row, place, rows):
    for j in range(place - 1, -1, -1):
        row = minus_times(row, row[j] // rows[j][j], rows[j])
    return row


# What's left is 0 just for the sums of the rows; behind the last row's own place the number must have 0.
def is_sum_of(rows, number):
    return not any(lessened(number, len(rows), rows))


def own_numbers(rows):
    return [row[place] for place, row in enumerate(rows)]


# All numbers that have at each place 0 or more, and less than the limit there; the lesser ones first.
# Below what rows have at their own places there's just one of each class.
def numbers_below(limits):
    numbers = [[]]
    for limit in limits:
        longer = []
        for number in numbers:
            longer.extend([number + [place] for place in range(limit)])
        numbers = longer
    return numbers


# The vectors must span all places, as those of an ideal that isn't 0 do.
def rows_of(vectors, width):
    steps = []
    others = vectors
    for place in range(width - 1, -1, -1):
        found = row_and_others(others, place)
        steps.append(found[0])
        others = found[1:]
    rows = []
    for step in reversed(steps):
        rows.append(lessened(step, len(rows), rows))
    return rows


# Of all sums of the sources those whose image, the same sum of the images, is in the target.
# The image stands behind its source; the target's rows may be taken from it at will,
# so the rows that have 0 all through the image are just the sums that are looked for.
def rows_mapped_into(sources, images, target):
    width = len(sources)
    vectors = [source + image for source, image in zip(sources, images)]
    vectors.extend([[0] * width + row for row in target])
    return [row[:width] for row in rows_of(vectors, 2 * width)[:width]]
