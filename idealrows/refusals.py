"""Refusals: each is told as one number below 0, alone."""

WRONG_NUMBERS = 1
NO_SUCH_IDEAL = 2
CAN_BE_PARTED = 3
ALL_ZERO = 3
NONE_LEFT = 4
NO_ROOM = 5
NORM_TOO_GREAT = 8
TOO_MANY_CLASSES = 9


def refusal(reason):
    return [-reason]
