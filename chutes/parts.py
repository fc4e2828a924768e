"""Parts: rectangles of cells, and copies of parts in parts."""

from chutes.cells import AIR, copied_cell, written_cell
from chutes.codes import NO_ROOM, NOT_AIR, TOO_MANY

MOST_SETS = 64


class Part:
    """A part, whose cells are kept row by row. Its letter sets are numbered, its own one is number 0."""

    def __init__(self, width, height):
        self.width = width
        self.height = height
        self.cells = []
        self.set_count = 1

    def is_complete(self):
        """Whether the part has all of its rows."""
        return len(self.cells) == self.width * self.height

    def add_row(self, signs):
        """Add the next row of the part."""
        for sign in signs:
            self.cells.append(written_cell(sign))

    def has_room(self, source, column, row):
        """Whether a copy of source lies within this part if its upper left cell is placed there."""
        across = 0 <= column and column + source.width <= self.width
        return across and 0 <= row and row + source.height <= self.height

    def placed_cells(self, source, column, row, mirror):
        """The cells of a copy that are not air: pairs of the place where each would lie in this part and the cell."""
        placed = []
        for place, cell in enumerate(source.cells):
            if cell.sign != AIR:
                right = place % source.width
                if mirror:
                    right = source.width - 1 - right
                down = place // source.width
                target = (row + down) * self.width + column + right
                placed.append((target, copied_cell(cell, mirror, self.set_count)))
        return placed

    def add_copy(self, source, column, row, mirror):
        """Copy source into this part; give back 0, or the code of the error for which nothing was copied."""
        if not self.has_room(source, column, row):
            return NO_ROOM
        placed = self.placed_cells(source, column, row, mirror)
        if any([self.cells[pair[0]].sign != AIR for pair in placed]):
            return NOT_AIR
        if self.set_count + source.set_count > MOST_SETS:
            return TOO_MANY
        for place, cell in placed:
            self.cells[place] = cell
        self.set_count += source.set_count
        return 0

    def changed(self, place, sign):
        """A part like this one, but for one cell, which is written with this character in a row of the part."""
        part = Part(self.width, self.height)
        part.cells = list(self.cells)
        part.cells[place] = written_cell(sign)
        part.set_count = self.set_count
        return part
