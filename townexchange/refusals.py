"""The numbers below 0 that a refused call answers."""

NONE_SUCH = -1
NOT_BEGUN = -2
NONE_THERE = -3
NOT_NOW = -5
NUMBERS_CLASH = -6
ALL_TAKEN = -9

# The document tells no such refusal, so nobody takes it for an answer of a call that is written.
NOT_WRITTEN_YET = -99
