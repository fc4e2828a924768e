"""Changes of a single cell, each a pair of a place and the new character, and the ringing after each of them."""

from chutes.cells import AIR
from chutes.running import find_rings


class Trials:
    """A board with the drops of its marbles and a horizon, and what becomes of its ringing when a cell is replaced."""

    def __init__(self, board, drops, horizon):
        self.board = board
        self.drops = drops
        self.horizon = horizon
        # The ringings found so far, by place and character: several calls ask for the same ones, and a run is long.
        self.tried = {}

    def rings_now(self):
        """The ringing of the board as it is."""
        return find_rings(self.board, self.drops, self.horizon)

    def rings_after(self, place, sign):
        """The ringing after the cell at a place is replaced."""
        if (place, sign) not in self.tried:
            changed = self.board.changed(place, sign)
            self.tried[(place, sign)] = find_rings(changed, self.drops, self.horizon)
        return self.tried[(place, sign)]

    def changes_among(self, palette):
        """All changes, in order."""
        changes = []
        for place, cell in enumerate(self.board.cells):
            for sign in palette:
                if sign != cell.sign:
                    changes.append((place, sign))
        return changes

    def repairs_among(self, palette, target):
        """The changes after which the board meets the target, in order."""
        wanted = sorted(target)
        changes = self.changes_among(palette)
        return [change for change in changes if self.rings_after(change[0], change[1]) == wanted]

    def noticeable_among(self, palette):
        """The changes after which the ringing differs, in order."""
        rings = self.rings_now()
        changes = self.changes_among(palette)
        return [change for change in changes if self.rings_after(change[0], change[1]) != rings]

    def idle_places(self):
        """The places of the idle cells, row by row."""
        rings = self.rings_now()
        idle = []
        for place, cell in enumerate(self.board.cells):
            if cell.sign != AIR and self.rings_after(place, AIR) == rings:
                idle.append(place)
        return idle
