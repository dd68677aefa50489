"""The numbers by which a call is refused."""

MISSING = -2
NOTHING = -6
TWICE = -17
MALFORMED = -22
FULL = -28
NO_MAP = -33
NOT_BEGUN = -61
TOO_LARGE = -75
