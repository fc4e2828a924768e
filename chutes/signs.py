"""Signs: the bytes that a text may hold, and the character of each."""

NEWLINE = 10
FIRST_PRINTABLE = 32
LAST_PRINTABLE = 126

# The characters of the bytes 32 to 126, in order. The percent sign is shown as `?`: no line and no cell has
# a use for either of the two.
PRINTABLE = " !\"#$?&'()*+,-./0123456789:;<=>?@ABCDEFGHIJKLMNOPQRSTUVWXYZ[\\]^_`abcdefghijklmnopqrstuvwxyz{|}~"


def is_sign(number):
    """Whether a number is a byte that a text may hold."""
    return number == NEWLINE or FIRST_PRINTABLE <= number <= LAST_PRINTABLE


def sign_of(number):
    """The character of a byte that a text may hold."""
    if number == NEWLINE:
        return "\n"
    return PRINTABLE[number - FIRST_PRINTABLE]
