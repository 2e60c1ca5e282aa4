"""Calls on a ring and its ideals, read from one flat list and answered in another."""

from idealrows.holding import Holding
from idealrows.ideals import by, common, has, holds, ideal_made_of, is_made_of, is_prime, norm_of, product, sum_of
from idealrows.of_norm import ideals_of_norm
from idealrows.polynomials import can_be_parted
from idealrows.reader import Reader
from idealrows.refusals import ALL_ZERO, CAN_BE_PARTED, NO_SUCH_IDEAL, TOO_MANY_CLASSES, WRONG_NUMBERS, refusal

GREATEST_COEFFICIENT = 20
GREATEST_PLACE = 100
MOST_CLASSES = 200
GREATEST_NORM_LISTED = 30


def all_within(numbers, greatest):
    return all([abs(number) <= greatest for number in numbers])


def in_one_list(rows):
    numbers = []
    for row in rows:
        numbers.extend(row)
    return numbers


def yes_or_no(is_so):
    return [1] if is_so else [0]


def answer_ring(holding, reader):
    coefficients = reader.take_list()
    if len(coefficients) not in (2, 3, 4) or not all_within(coefficients, GREATEST_COEFFICIENT):
        return refusal(WRONG_NUMBERS)
    if can_be_parted(coefficients):
        return refusal(CAN_BE_PARTED)
    holding.change_ring(coefficients)
    return [0]


def answer_ideal(holding, reader):
    places = reader.take_list()
    width = len(holding.coefficients)
    if len(places) not in (width, 2 * width, 3 * width) or not all_within(places, GREATEST_PLACE):
        return refusal(WRONG_NUMBERS)
    if not any(places):
        return refusal(ALL_ZERO)
    numbers = [places[start:start + width] for start in range(0, len(places), width)]
    return holding.keep(ideal_made_of(holding.coefficients, numbers))


def answer_of_two(holding, reader, make):
    i = reader.take_number()
    j = reader.take_number()
    if not holding.has_ideal(i) or not holding.has_ideal(j):
        return refusal(NO_SUCH_IDEAL)
    return holding.keep(make(holding.coefficients, holding.ideals[i], holding.ideals[j]))


def answer_sum_of(holding, reader):
    return answer_of_two(holding, reader, sum_of)


def answer_product(holding, reader):
    return answer_of_two(holding, reader, product)


def answer_common(holding, reader):
    return answer_of_two(holding, reader, common)


def answer_by(holding, reader):
    return answer_of_two(holding, reader, by)


def answer_told(holding, reader):
    i = reader.take_number()
    if not holding.has_ideal(i):
        return refusal(NO_SUCH_IDEAL)
    return [0] + in_one_list(holding.ideals[i])


def answer_norm(holding, reader):
    i = reader.take_number()
    if not holding.has_ideal(i):
        return refusal(NO_SUCH_IDEAL)
    return [0, norm_of(holding.ideals[i])]


def answer_of_number(holding, reader, is_so):
    i = reader.take_number()
    places = reader.take_list()
    if not holding.has_ideal(i):
        return refusal(NO_SUCH_IDEAL)
    if len(places) != len(holding.coefficients) or not all_within(places, GREATEST_PLACE):
        return refusal(WRONG_NUMBERS)
    return yes_or_no(is_so(holding.coefficients, holding.ideals[i], places))


def answer_has(holding, reader):
    return answer_of_number(holding, reader, has)


def answer_made(holding, reader):
    return answer_of_number(holding, reader, is_made_of)


def answer_holds(holding, reader):
    i = reader.take_number()
    j = reader.take_number()
    if not holding.has_ideal(i) or not holding.has_ideal(j):
        return refusal(NO_SUCH_IDEAL)
    return yes_or_no(holds(holding.ideals[i], holding.ideals[j]))


def answer_prime(holding, reader):
    i = reader.take_number()
    if not holding.has_ideal(i):
        return refusal(NO_SUCH_IDEAL)
    if norm_of(holding.ideals[i]) > MOST_CLASSES:
        return refusal(TOO_MANY_CLASSES)
    return yes_or_no(is_prime(holding.coefficients, holding.ideals[i]))


def answer_all_of_norm(holding, reader):
    norm = reader.take_number()
    if not 1 <= norm <= GREATEST_NORM_LISTED:
        return refusal(WRONG_NUMBERS)
    ideals = ideals_of_norm(holding.coefficients, norm)
    answer = [len(ideals)]
    for rows in ideals:
        answer.extend(in_one_list(rows))
    return answer


def answer_drop(holding, reader):
    return holding.drop_last()


# A call's number is its index here.
ANSWERERS = (
    answer_ring,
    answer_ideal,
    answer_sum_of,
    answer_product,
    answer_common,
    answer_by,
    answer_told,
    answer_norm,
    answer_has,
    answer_made,
    answer_holds,
    answer_prime,
    answer_all_of_norm,
    answer_drop,
)


def answers(calls):
    reader = Reader(calls)
    holding = Holding()
    told = []
    while not reader.is_at_end():
        answer = ANSWERERS[reader.take_number()](holding, reader)
        told.append(len(answer))
        told.extend(answer)
    return told
