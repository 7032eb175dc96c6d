"""The limits that the points of the document name."""

# Integers, words and the sizes of generators: points [3] to [6].
GREAT = 1000
WORDS = 10
LETTERS = 8
ITEMS = 4
LONG = 6
DIVISOR = 100

# How much is counted before it is too many: points [13] and [16].
VALUES = 2000
EXACT = 5000

# Integers in texts: point [9].
DIGITS = 6

# Machines: points [26] and [28].
COMMANDS = 4
STATES = 2000

# Books: point [30].
NAMES = 10
ROWS = 20
