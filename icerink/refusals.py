"""The numbers that refused calls answer, by what they say."""

NOT_THERE = -2
NONE_SUCH = -6
TOO_FEW = -12
NOT_HARD = -13
IN_USE = -16
ALREADY_SO = -17
NOT_AS_TOLD = -22
NO_ROOM = -28
OUT_OF_REACH = -33
TOO_LATE = -75
