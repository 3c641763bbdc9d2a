"""The numbers that refusals are answered with."""

NOT_THERE = -2
NOTHING_LACKS = -11
TOO_EARLY = -13
WRONG_VALUE = -22
NO_ROOM = -28
WRONG_MESSAGE = -71
