"""The limits that several of the program's parts share."""

MINUTE_LIMIT = 2147483648
DAY_MINUTES = 1440
ALL_ZONES = 255
MOST_READERS = 8
MOST_TAPS = 8192
MOST_RIDES = 32
