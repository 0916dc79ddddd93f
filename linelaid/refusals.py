"""The numbers by which a call is refused."""

NO_STATION = -2
NONE_TOLD = -6
NOT_BEGUN = -11
AN_END = -16
NONE_TOO_FAR = -17
OUT_OF_RANGE = -22
NO_LINE = -33
