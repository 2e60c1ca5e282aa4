"""What the tests share: the calls by name, and the flat lists put together and taken apart."""

from idealrows.ring import answers

MOST = 9007199254740992
MOST_CALLS = 40


def ring(*coefficients):
    return [0, len(coefficients), *coefficients]


def ideal(*places):
    return [1, len(places), *places]


def sum_of(i, j):
    return [2, i, j]


def product(i, j):
    return [3, i, j]


def common(i, j):
    return [4, i, j]


def by(i, j):
    return [5, i, j]


def told(i):
    return [6, i]


def answered(*calls):
    """The answers to the calls, one list of numbers for each."""
    if len(calls) > MOST_CALLS:
        raise ValueError("too many calls for one list")
    flat = answers([number for call in calls for number in call])
    lists = []
    position = 0
    while position < len(flat):
        start = position + 1
        position = start + flat[position]
        if position > len(flat):
            raise ValueError("an answer is shorter than it says")
        lists.append(flat[start:position])
    if len(lists) != len(calls):
        raise ValueError("not one answer for each call")
    return lists


def last(*calls):
    return answered(*calls)[-1]


def rows_in(answer, width):
    """The rows of an answer of told."""
    if answer[0] != 0 or len(answer) != 1 + width * width:
        raise ValueError("no rows: " + repr(answer))
    return [answer[1 + width * i:1 + width * (i + 1)] for i in range(width)]


def flat_rows(*rows):
    """What told answers for these rows."""
    return [0] + [number for row in rows for number in row]
