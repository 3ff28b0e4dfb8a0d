"""The numbers that refusals are."""

BAD_ARGUMENTS = -2
BAD_BYTES = -3
NO_MORE = -6
TOO_LONG = -7
