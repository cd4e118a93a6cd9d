"""The limits of what the package takes."""

MOST_SIZE = 4
MOST_TABLES = 3
MOST_NUMBER = 10 ** 6
MOST_LETTERS = 40
MOST_COLUMNS = 8
MOST_CHANGES = 6
