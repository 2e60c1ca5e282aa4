"""All ideals of a norm, in the order of their rows; the ring by c0, c1, ..."""

from idealrows.arithmetic import times_t
from idealrows.lattices import is_sum_of, numbers_below


# What rows can have at their own places, the lesser ones first. t times a row has the same number one place
# further on, so what the next row has there divides it.
def own_numbers_of_norm(norm, greatest, width):
    if width == 0:
        return [[]] if norm == 1 else []
    found = []
    for own in range(1, norm + 1):
        if norm % own == 0 and greatest % own == 0:
            found.extend([[own] + behind for behind in own_numbers_of_norm(norm // own, own, width - 1)])
    return found


def rows_for_place(own, place):
    behind = [0] * (len(own) - 1 - place)
    return [ahead + [own[place]] + behind for ahead in numbers_below(own[:place])]


# t times the row ahead has 0 behind this row's place, so in an ideal it's a sum of the rows up to this one.
def fits_behind(coefficients, rows, row):
    return not rows or is_sum_of(rows + [row], times_t(coefficients, rows[-1]))


def continued(coefficients, rows, choices):
    return [rows + [row] for row in choices if fits_behind(coefficients, rows, row)]


# An ideal is what has t times each of its rows; all but the last one are looked at row by row.
def ideals_with_own(coefficients, own):
    found = [[]]
    for place in range(len(own)):
        choices = rows_for_place(own, place)
        longer = []
        for rows in found:
            longer.extend(continued(coefficients, rows, choices))
        found = longer
    return [rows for rows in found if is_sum_of(rows, times_t(coefficients, rows[-1]))]


def ideals_of_norm(coefficients, norm):
    ideals = []
    for own in own_numbers_of_norm(norm, norm, len(coefficients)):
        ideals.extend(ideals_with_own(coefficients, own))
    return ideals
