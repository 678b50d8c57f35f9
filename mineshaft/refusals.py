"""The numbers that a refused call answers."""

MISSING = -2
NOTHING = -6
TOO_LITTLE = -12
FOUL = -13
HINDERED = -16
ALREADY = -17
WRONG = -22
FULL = -28
UNSAFE = -62
TOO_LATE = -75
