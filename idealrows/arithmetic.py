"""Numbers of a ring, each told by its places; the ring by c0, c1, ..."""


def minus_times(number, factor, other):
    return [a - factor * b for a, b in zip(number, other)]


# What t to the n would have is put back as - (c0 + c1 t + ...).
def times_t(coefficients, number):
    return minus_times([0] + number[:-1], number[-1], coefficients)


# The sums of these are all products of the number with numbers of the ring.
def shifts_of(coefficients, number):
    shifts = [list(number)]
    while len(shifts) < len(coefficients):
        shifts.append(times_t(coefficients, shifts[-1]))
    return shifts


def times(coefficients, one, other):
    total = [0] * len(coefficients)
    for place, shift in zip(one, shifts_of(coefficients, other)):
        total = minus_times(total, -place, shift)
    return total
