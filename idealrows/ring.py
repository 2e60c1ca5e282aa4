"""Calls on a ring and its ideals, read from one flat list and answered in another."""

from idealrows.holding import Holding
from idealrows.ideals import by, common, ideal_made_of, product, sum_of
from idealrows.polynomials import can_be_parted
from idealrows.reader import Reader
from idealrows.refusals import ALL_ZERO, CAN_BE_PARTED, NO_SUCH_IDEAL, WRONG_NUMBERS, refusal

GREATEST_COEFFICIENT = 20
GREATEST_PLACE = 100


def all_within(numbers, greatest):
    return all([abs(number) <= greatest for number in numbers])


def answer_ring(holding, reader):
    coefficients = reader.take_list()
    if len(coefficients) not in (2, 3, 4) or not all_within(coefficients, GREATEST_COEFFICIENT):
        return refusal(WRONG_NUMBERS)
    if can_be_parted(coefficients):
        return refusal(CAN_BE_PARTED)
    holding.change_ring(coefficients)
    return [0]


def answer_ideal(holding, reader):
    places = reader.take_list()
    width = len(holding.coefficients)
    if len(places) not in (width, 2 * width, 3 * width) or not all_within(places, GREATEST_PLACE):
        return refusal(WRONG_NUMBERS)
    if not any(places):
        return refusal(ALL_ZERO)
    numbers = [places[start:start + width] for start in range(0, len(places), width)]
    return holding.keep(ideal_made_of(holding.coefficients, numbers))


def answer_of_two(holding, reader, make):
    i = reader.take_number()
    j = reader.take_number()
    if not holding.has_ideal(i) or not holding.has_ideal(j):
        return refusal(NO_SUCH_IDEAL)
    return holding.keep(make(holding.coefficients, holding.ideals[i], holding.ideals[j]))


def answer_sum_of(holding, reader):
    return answer_of_two(holding, reader, sum_of)


def answer_product(holding, reader):
    return answer_of_two(holding, reader, product)


def answer_common(holding, reader):
    return answer_of_two(holding, reader, common)


def answer_by(holding, reader):
    return answer_of_two(holding, reader, by)


def answer_told(holding, reader):
    i = reader.take_number()
    if not holding.has_ideal(i):
        return refusal(NO_SUCH_IDEAL)
    answer = [0]
    for row in holding.ideals[i]:
        answer.extend(row)
    return answer


# A call's number is its index here.
ANSWERERS = (
    answer_ring,
    answer_ideal,
    answer_sum_of,
    answer_product,
    answer_common,
    answer_by,
    answer_told,
)


def answers(calls):
    reader = Reader(calls)
    holding = Holding()
    told = []
    while not reader.is_at_end():
        answer = ANSWERERS[reader.take_number()](holding, reader)
        told.append(len(answer))
        told.extend(answer)
    return told
