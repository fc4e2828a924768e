"""Cells: their characters, the sides to which they lead, and what a copy makes of them."""

AIR = "."
WALL = "#"
LIFT = "^"
BIN = "U"
BELL = "!"
DRUM = "O"
BELTS = "><"
FLIPS = "Yy"
PLATES = "abcdef"
GATES = "ABCDEF"
COUNTERS = "23456789"
CHARACTERS = ".#\\/><^YyU!OabcdefABCDEF23456789"

RIGHTWARD = "\\>Y23456789"
LEFTWARD = "/<y"
# A counter isn't here: the character shown for it stays the same, only its side is reversed.
MIRRORED = {"\\": "/", "/": "\\", ">": "<", "<": ">", "Y": "y", "y": "Y"}

OWN_SET = 0


class Cell:
    """One cell. Its side is 1 to the right, -1 to the left, 0 if it leads to neither; a flip's is its first one."""

    def __init__(self, sign, side, letter_set):
        self.sign = sign
        self.side = side
        self.letter_set = letter_set


def side_of(sign):
    """The side to which a cell leads that is written with this character."""
    if sign in RIGHTWARD:
        return 1
    if sign in LEFTWARD:
        return -1
    return 0


def written_cell(sign):
    """The cell of a part that is written with this character in a row of the part."""
    return Cell(sign, side_of(sign), OWN_SET)


def copied_cell(cell, mirror, first_set):
    """The copy of a cell in a part in which the letter sets of the copy are counted from first_set on."""
    letter_set = first_set + cell.letter_set
    if mirror:
        return Cell(MIRRORED.get(cell.sign, cell.sign), -cell.side, letter_set)
    return Cell(cell.sign, cell.side, letter_set)
