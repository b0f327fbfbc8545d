"""The numbers that refused calls answer."""

NOT_THERE = -2
NO_CHANGE = -2
NOBODY = -6
NO_BASE = -6
NONE_BUSY = -6
TOO_FEW_WAIT = -12
NOT_NOW = -16
ALREADY_SO = -17
WRONG_NUMBER = -22
TOO_MANY = -28
MAY_NOT = -33
NO_WAY = -33
NO_SEATS = -62
TOO_LATE = -75
