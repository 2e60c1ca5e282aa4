"""Polynomials c0 + c1 x + ... + x to the n, told by c0, c1, ... alone."""


# The leading 1 isn't among the coefficients, so it's what the walk begins with.
def value_at(coefficients, x):
    value = 1
    for coefficient in reversed(coefficients):
        value = value * x + coefficient
    return value


# No root, real or not, is farther from 0: there x to the n outweighs all the rest.
def root_bound(coefficients):
    return 1 + max([abs(coefficient) for coefficient in coefficients])


def has_whole_root(coefficients):
    bound = root_bound(coefficients)
    for x in range(-bound, bound + 1):
        if value_at(coefficients, x) == 0:
            return True
    return False


# Of the two factors x x + a x + b and x x + e x + d, b divides c0,
# and a is a sum of two roots, so at most twice their bound.
def parts_into_quadratics(coefficients):
    last = abs(coefficients[0])
    widest = 2 * root_bound(coefficients)
    for b in range(-last, last + 1):
        if b != 0 and coefficients[0] % b == 0:
            d = coefficients[0] // b
            for a in range(-widest, widest + 1):
                e = coefficients[3] - a
                if b + d + a * e == coefficients[2] and a * d + b * e == coefficients[1]:
                    return True
    return False


# A parting of degree 2 or 3 has a factor of degree 1, and so a whole root;
# degree 4 can also part into two of degree 2 without any.
# A polynomial with c0 = 0 has the root 0, so the search for quadratics never meets it.
def can_be_parted(coefficients):
    if has_whole_root(coefficients):
        return True
    return len(coefficients) == 4 and parts_into_quadratics(coefficients)
