"""The codes of errors, all written without their sign."""

# Errors in texts.
MALFORMED = 1
WRONG_NAME = 2
NO_ROOM = 3
NOT_AIR = 4
TOO_MANY = 5
NO_PART = 6

# Errors of operations.
OUT_OF_RANGE = 2
NO_REPAIR = 3
REFUSED = 4
NO_TEXT = 7
