"""The numbers below 0 that a refused call answers."""

NONE_SUCH = -1
NOT_BEGUN = -2
NONE_THERE = -3
NO_NUMBER = -4
NOT_NOW = -5
NUMBERS_CLASH = -6
ALL_TAKEN = -9
