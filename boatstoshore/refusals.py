"""The numbers of the refusals."""

NONE_THERE = -2
NO_ONE = -6
TOO_FEW = -12
MAY_NOT_GO = -13
NOT_AS_IT_LIES = -16
WRONG = -22
NO_MORE = -28
NEVER = -33
NO_SEATS = -62
TOO_LATE = -75
