"""The greatest numbers that fairs, meetings and changes may have."""

MOST_SIDE = 4
MOST_BOUND = 4
MOST_TABLES = 12
MOST_MEETINGS = 10 ** 30
MOST_CHANGES = 5
