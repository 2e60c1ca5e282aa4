"""What the tests share: the calls by name, and the flat lists put together and taken apart."""

from idealrows.ring import answers

MOST = 9007199254740992
MOST_CALLS = 40


def ring(*coefficients):
    return [0, len(coefficients), *coefficients]


def ideal(*places):
    return [1, len(places), *places]


def sum_of(i, j):
    return [2, i, j]


def product(i, j):
    return [3, i, j]


def common(i, j):
    return [4, i, j]


def by(i, j):
    return [5, i, j]


def told(i):
    return [6, i]


def norm(i):
    return [7, i]


def has(i, *places):
    return [8, i, len(places), *places]


def made(i, *places):
    return [9, i, len(places), *places]


def holds(i, j):
    return [10, i, j]


def prime(i):
    return [11, i]


def all_of_norm(m):
    return [12, m]


def drop():
    return [13]


def answered(*calls):
    """The answers to the calls, one list of numbers for each."""
    if len(calls) > MOST_CALLS:
        raise ValueError("too many calls for one list")
    flat = answers([number for call in calls for number in call])
    lists = []
    position = 0
    while position < len(flat):
        start = position + 1
        position = start + flat[position]
        if position > len(flat):
            raise ValueError("an answer is shorter than it says")
        lists.append(flat[start:position])
    if len(lists) != len(calls):
        raise ValueError("not one answer for each call")
    return lists


def last(*calls):
    return answered(*calls)[-1]


def making(rows):
    """The calls that make the ideal of these rows where there are none, and its number."""
    if len(rows) < 4:
        return [ideal(*joined(rows))], 0
    return [ideal(*joined(rows[:2])), ideal(*joined(rows[2:])), sum_of(0, 1)], 2


def joined(rows):
    return [number for row in rows for number in row]


def rows_in(answer, width):
    """The rows of an answer of told."""
    if answer[0] != 0 or len(answer) != 1 + width * width:
        raise ValueError("no rows: " + repr(answer))
    return rows_from(answer[1:], width)


def ideals_in(answer, width):
    """The rows of each ideal that all_of_norm answers."""
    if len(answer) != 1 + answer[0] * width * width:
        raise ValueError("not as many rows as it says: " + repr(answer))
    rows = rows_from(answer[1:], width)
    return [rows[start:start + width] for start in range(0, len(rows), width)]


def rows_from(numbers, width):
    return [numbers[start:start + width] for start in range(0, len(numbers), width)]


def flat_rows(*rows):
    """What told answers for these rows."""
    return [0] + joined(rows)
