"""The numbers that refusals are answered with."""

NOT_THERE = -2
HOLE_FORBIDDEN = -13
IN_USE = -16
THERE_ALREADY = -17
WRONG_NAME = -22
TWO_OF_ONE_NAME = -22
TOO_MUCH = -28
TOO_MANY_STEPS = -62
MALFORMED = -71
