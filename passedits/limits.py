"""The limits of the numbers and lengths that callers pass."""

MOST_OPTIONS = 5
LEAST_PLACE = -9
MOST_PLACE = 10 ** 12
MOST_SIGNS = 1000
MOST_EDITS = 6
MOST_CHANGES = 6
MOST_WISHES = 6
