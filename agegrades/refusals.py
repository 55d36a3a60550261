"""The numbers that refused calls answer."""

NO_SUCH_MAN = -2
NOBODY_MAY = -6
TOO_NEAR = -13
DEAD_OR_NEWBORN = -16
ALREADY_SO = -17
OUT_OF_BOUNDS = -22
PEOPLE_FULL = -28
NONE_THERE = -33
