"""Program texts: what their lines define, and the errors in them."""

from chutes.cells import CHARACTERS
from chutes.codes import MALFORMED, NO_PART, NO_ROOM, TOO_MANY, WRONG_NAME
from chutes.parts import Part
from chutes.wording import is_name, number_of, number_within, signed_number_of

LONGEST_SIDE = 24
MOST_COPIES = 12
MOST_PARTS = 12
MOST_MARBLES = 40
MOST_TIMES = 999


class Program:
    """What the lines read so far have defined."""

    def __init__(self):
        # By their names, only the parts that have been ended: no part is copied into itself.
        self.parts = {}
        # The part that has not been ended yet, and its name.
        self.open_part = None
        self.open_name = ""
        # The last part that has been ended.
        self.board = None
        # For each marble, in the order of their numbers, its column and the tick of its drop.
        self.drops = []


def read_text(program, text):
    """Read a text into a new program; give back 0, or 100 * line + code + 10 for the first error."""
    lines = text.split("\n")
    for number, line in enumerate(lines, start=1):
        code = read_line(program, line)
        if code > 0:
            return 100 * number + code + 10
    if program.open_part is not None or program.board is None:
        return 100 * (len(lines) + 1) + NO_PART + 10
    return 0


def read_line(program, line):
    """Read one line; give back 0, or the code of the error in it. So do all the functions below."""
    words = line.split()
    if words == [] or line.startswith(";"):
        return 0
    if line.startswith(":"):
        return read_row(program, line[1:])
    if words[0] == "part":
        return read_part(program, words)
    if words[0] == "put":
        return read_put(program, words)
    if words[0] == "end":
        return read_end(program, words)
    if words[0] == "drop":
        return read_drop(program, words)
    return MALFORMED


def read_row(program, signs):
    """Read a row of a part, without its colon."""
    part = program.open_part
    if part is None or part.is_complete():
        return MALFORMED
    if len(signs) != part.width or not all([sign in CHARACTERS for sign in signs]):
        return MALFORMED
    part.add_row(signs)
    return 0


def read_part(program, words):
    """Read `part NAME W H`."""
    if len(words) != 4 or not is_name(words[1]):
        return MALFORMED
    sides = [number_within(word, 1, LONGEST_SIDE) for word in words[2:]]
    if None in sides or program.open_part is not None or program.drops != []:
        return MALFORMED
    if words[1] in program.parts:
        return WRONG_NAME
    if len(program.parts) == MOST_PARTS:
        return TOO_MANY
    program.open_name = words[1]
    program.open_part = Part(sides[0], sides[1])
    return 0


def read_put(program, words):
    """Read `put NAME X Y [mirror] [times N DX DY]`."""
    mirror = words[4:5] == ["mirror"]
    tail = words[5:] if mirror else words[4:]
    if tail == []:
        tail = ["times", "1", "0", "0"]
    if len(words) < 4 or not is_name(words[1]) or len(tail) != 4 or tail[0] != "times":
        return MALFORMED
    copies = number_within(tail[1], 1, MOST_COPIES)
    offsets = [signed_number_of(word) for word in words[2:4] + tail[2:]]
    if copies is None or None in offsets:
        return MALFORMED
    if program.open_part is None or not program.open_part.is_complete():
        return MALFORMED
    if words[1] not in program.parts:
        return WRONG_NAME
    return put_copies(program.open_part, program.parts[words[1]], offsets, mirror, copies)


def put_copies(part, source, offsets, mirror, copies):
    """Make the copies of a `put`; offsets are its X, Y, DX and DY."""
    for number in range(copies):
        column = offsets[0] + number * offsets[2]
        row = offsets[1] + number * offsets[3]
        code = part.add_copy(source, column, row, mirror)
        if code > 0:
            return code
    return 0


def read_end(program, words):
    """Read `end`."""
    part = program.open_part
    if len(words) != 1 or part is None or not part.is_complete():
        return MALFORMED
    program.parts[program.open_name] = part
    program.board = part
    program.open_part = None
    return 0


def read_drop(program, words):
    """Read `drop X T [every D times N]`."""
    tail = words[3:]
    if tail == []:
        tail = ["every", "1", "times", "1"]
    if len(words) < 3 or len(tail) != 4 or tail[0] != "every" or tail[2] != "times":
        return MALFORMED
    start = [number_of(word) for word in words[1:3]]
    repeats = [number_within(word, 1, MOST_TIMES) for word in [tail[1], tail[3]]]
    if None in start + repeats or program.open_part is not None:
        return MALFORMED
    if program.board is None:
        return NO_PART
    if start[0] >= program.board.width:
        return NO_ROOM
    if len(program.drops) + repeats[1] > MOST_MARBLES:
        return TOO_MANY
    for number in range(repeats[1]):
        program.drops.append((start[0], start[1] + number * repeats[0]))
    return 0
