"""The numbers that refusals are."""

BAD_ARGUMENTS = -2
BAD_BYTES = -3
NOTHING_TO_SHOW = -4
NO_MORE = -6
TOO_LONG = -7
