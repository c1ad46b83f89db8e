"""The numbers that calls refuse by; one number may stand for several reasons."""

ACCEPTED = 0
BAD_FORM = -1
UNKNOWN = -2
WRONG_TIME = -3
NOT_PLANNED = -4
IN_THE_TREE = -4
DOES_NOT_FIT = -5
NOT_READY = -5
NEEDED = -6
FULL = -7
