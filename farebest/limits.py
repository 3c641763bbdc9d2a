"""The limits that several of the program's parts share."""

MINUTE_LIMIT = 2147483648
ALL_ZONES = 255
MOST_READERS = 8
MOST_TAPS = 8192
