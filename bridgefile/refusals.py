"""The numbers that refusals are told by."""

NOT_LET = -1
NOT_THERE = -2
CANT_BE = -4
TOO_MANY = -5
NOTHING = -6
