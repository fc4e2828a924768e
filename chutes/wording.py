"""The words of a line of a program text: names and numbers."""

LONGEST_NAME = 8
MOST_DIGITS = 3


def is_name(word):
    """Whether a word is a name."""
    return len(word) <= LONGEST_NAME and word.isalpha() and word.islower()


def number_of(word):
    """The number that a word is, or None if it is no number."""
    if not word.isdigit() or len(word) > MOST_DIGITS:
        return None
    if len(word) > 1 and word.startswith("0"):
        return None
    return int(word)


def signed_number_of(word):
    """The signed number that a word is, or None if it is no signed number."""
    if not word.startswith("-"):
        return number_of(word)
    number = number_of(word[1:])
    if number is None:
        return None
    return -number


def number_within(word, least, most):
    """The number that a word is, or None if it is no number from least to most."""
    number = number_of(word)
    if number is None or number < least or number > most:
        return None
    return number
