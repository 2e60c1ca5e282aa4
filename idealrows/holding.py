"""A ring and those of its ideals that are kept."""

from idealrows.ideals import norm_of
from idealrows.refusals import NONE_LEFT, NORM_TOO_GREAT, NO_ROOM, refusal

MOST_IDEALS = 8
GREATEST_NORM = 1000000000000


class Holding:
    def __init__(self):
        self.coefficients = [1, 0]
        self.ideals = []

    def change_ring(self, coefficients):
        self.coefficients = coefficients
        self.ideals = []

    def has_ideal(self, i):
        return i < len(self.ideals)

    def keep(self, rows):
        if len(self.ideals) == MOST_IDEALS:
            return refusal(NO_ROOM)
        if norm_of(rows) > GREATEST_NORM:
            return refusal(NORM_TOO_GREAT)
        self.ideals.append(rows)
        return [len(self.ideals) - 1]

    def drop_last(self):
        if not self.ideals:
            return refusal(NONE_LEFT)
        self.ideals.pop()
        return [len(self.ideals)]
