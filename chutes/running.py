"""The simulation: how the marbles of a board move, tick by tick, and the bells they ring."""

from chutes.cells import BELL, BELTS, BIN, COUNTERS, DRUM, FLIPS, GATES, LIFT, PLATES, WALL


class Run:
    """A run of a board from tick 0 on. A place is the number of a cell, counted row by row from 0."""

    def __init__(self, board, drops):
        self.board = board
        # The column of each marble, and the tick from which on it enters.
        self.drops = drops
        self.tick = 0
        # The numbers of the marbles that have not entered yet, in order.
        self.waiting = list(range(len(drops)))
        # The marble at each place where there is one.
        self.marbles = {}
        # How many marbles have left the cell at each place.
        self.leavings = {}
        # The permits of each linked group of plates and gates.
        self.permits = {}
        # The tick and the marble of each ring.
        self.rings = []

    def advance(self):
        """Go on by one tick."""
        self.tick += 1
        self.move_marbles()
        self.enter_marbles()

    def move_marbles(self):
        """Move each marble on the board at most once, the lowest row first, each row from left to right."""
        width = self.board.width
        wanted = self.wanted_places()
        order = sorted(self.marbles, key=lambda place: (-(place // width), place))
        for place in order:
            if self.may_leave(place, wanted):
                self.move_marble(place)

    def enter_marbles(self):
        """Let each marble whose tick has come enter, if there is room for it."""
        still_waiting = []
        for marble in self.waiting:
            drop = self.drops[marble]
            if drop[1] <= self.tick and self.is_free(drop[0]):
                self.enter_cell(marble, drop[0])
            else:
                still_waiting.append(marble)
        self.waiting = still_waiting

    def wanted_places(self):
        """The destinations of the marbles that want to move, as the keys of a dict."""
        wanted = {}
        for place in self.marbles:
            if self.wants_to_move(place):
                wanted[self.destination(place)] = True
        return wanted

    def wants_to_move(self, place):
        """Whether the marble at a place is not kept there by a gate."""
        cell = self.board.cells[place]
        return cell.sign not in GATES or self.permits.get(group_of(cell), 0) > 0

    def may_leave(self, place, wanted):
        """Whether the cell at a place lets its marble go; wanted was found at the beginning of the tick."""
        if self.board.cells[place].sign == DRUM:
            return place in wanted
        return self.wants_to_move(place)

    def destination(self, place):
        """The destination from a place, None if it is beside or above the board; below it lie places, too."""
        cell = self.board.cells[place]
        width = self.board.width
        column = place % width + self.columns_aside(place, cell)
        row = place // width + rows_down(cell.sign)
        if column < 0 or column >= width or row < 0:
            return None
        return row * width + column

    def columns_aside(self, place, cell):
        """How many columns to the right the next marble goes that leaves the cell at a place."""
        left_before = self.leavings.get(place, 0)
        if cell.sign in FLIPS and left_before % 2 == 1:
            return -cell.side
        if cell.sign in COUNTERS and (left_before + 1) % int(cell.sign) > 0:
            return 0
        return cell.side

    def place_of(self, marble):
        """The place where a marble is, None if it is not on the board."""
        for place in self.marbles:
            if self.marbles[place] == marble:
                return place
        return None

    def is_below(self, place):
        """Whether a place lies below the board."""
        return place >= len(self.board.cells)

    def is_free(self, place):
        """Whether a marble can go to a place now."""
        if self.is_below(place):
            return True
        # A bin is always free, as no marble stays in it.
        return self.board.cells[place].sign != WALL and place not in self.marbles

    def move_marble(self, place):
        """Move the marble at a place to its destination, if that can be reached."""
        goal = self.destination(place)
        if goal is None or not self.is_free(goal):
            return
        marble = self.marbles.pop(place)
        self.leave_cell(place)
        if not self.is_below(goal):
            self.enter_cell(marble, goal)

    def leave_cell(self, place):
        """Count a marble that leaves the cell at a place."""
        cell = self.board.cells[place]
        self.leavings[place] = self.leavings.get(place, 0) + 1
        if cell.sign in GATES:
            self.permits[group_of(cell)] -= 1

    def enter_cell(self, marble, place):
        """Put a marble into the cell at a place."""
        cell = self.board.cells[place]
        if cell.sign == BIN:
            return
        self.marbles[place] = marble
        if cell.sign == BELL:
            self.rings.append((self.tick, marble))
        if cell.sign in PLATES:
            self.permits[group_of(cell)] = self.permits.get(group_of(cell), 0) + 1


def group_of(cell):
    """What is the same for the plates and gates that are linked, and for them alone."""
    return (cell.letter_set, cell.sign.lower())


def rows_down(sign):
    """How many rows down a marble goes that leaves a cell with this character."""
    if sign in BELTS:
        return 0
    if sign == LIFT:
        return -1
    return 1


def find_rings(board, drops, horizon):
    """The ringing of a board: pairs of a tick and a marble, sorted."""
    run = Run(board, drops)
    while run.tick < horizon:
        run.advance()
    return sorted(run.rings)


def find_path(board, drops, horizon, marble):
    """The places of a marble after each of the ticks up to the horizon after which it is on the board."""
    run = Run(board, drops)
    places = []
    while run.tick < horizon:
        run.advance()
        place = run.place_of(marble)
        if place is not None:
            places.append(place)
    return places
