"""The calls: each reads or changes the bench, and is answered by a list of whole numbers."""

from chutes.cells import CHARACTERS
from chutes.changing import Trials
from chutes.codes import NO_REPAIR, NO_TEXT, OUT_OF_RANGE, REFUSED
from chutes.reading import MOST_MARBLES, Program, read_text
from chutes.running import find_path
from chutes.signs import is_sign, sign_of

LOAD = 1
LONGEST_TEXT = 4000
LARGEST_BOARD = 36
MOST_CHARACTERS = 12
MOST_TICKS = 40
FIRST_PALETTE = (".", "\\", "/")


class Bench:
    """What the calls of one list share. As long as no text is loaded, there is no board."""

    def __init__(self):
        self.begin(None, [])

    def begin(self, board, drops):
        """Begin anew with a board and the drops of its marbles."""
        # The board with its marbles, and the horizon.
        self.trials = Trials(board, drops, MOST_TICKS)
        # Pairs of a tick and a marble, in the order in which they were added.
        self.target = []
        self.palette = list(FIRST_PALETTE)


def refusal(code):
    """The answer that tells an error."""
    return [-code]


def counted(groups):
    """The answer that tells how many groups of numbers there are, then the numbers of each."""
    told = [len(groups)]
    for group in groups:
        told.extend(group)
    return told


def position_of(bench, place):
    """The column and the row of a place of the board."""
    width = bench.trials.board.width
    return (place % width, place // width)


def load(bench, numbers):
    """Load a text."""
    if len(numbers) > LONGEST_TEXT or not all([is_sign(number) for number in numbers]):
        return refusal(OUT_OF_RANGE)
    program = Program()
    error = read_text(program, "".join([sign_of(number) for number in numbers]))
    if error > 0:
        return refusal(error)
    loaded = program.board
    if loaded.width * loaded.height > LARGEST_BOARD:
        return refusal(REFUSED)
    bench.begin(loaded, program.drops)
    return [loaded.width, loaded.height, len(program.drops)]


def set_palette(bench, numbers):
    """Replace the palette."""
    if len(numbers) < 1 or len(numbers) > MOST_CHARACTERS or len(set(numbers)) < len(numbers):
        return refusal(OUT_OF_RANGE)
    if not all([is_sign(number) and sign_of(number) in CHARACTERS for number in numbers]):
        return refusal(OUT_OF_RANGE)
    bench.palette = [sign_of(number) for number in numbers]
    return [len(bench.palette)]


def set_horizon(bench, numbers):
    """Set the horizon."""
    if numbers[0] < 1 or numbers[0] > MOST_TICKS:
        return refusal(OUT_OF_RANGE)
    bench.trials = Trials(bench.trials.board, bench.trials.drops, numbers[0])
    return [0]


def want_ring(bench, numbers):
    """Add a pair to the target."""
    tick = numbers[0]
    marble = numbers[1]
    if tick < 1 or tick > MOST_TICKS or marble < 0 or marble >= MOST_MARBLES:
        return refusal(OUT_OF_RANGE)
    if (tick, marble) in bench.target:
        return refusal(REFUSED)
    bench.target.append((tick, marble))
    return [len(bench.target)]


def clear_target(bench, numbers):
    """Empty the target."""
    count = len(bench.target)
    bench.target = []
    return [count]


def ringing(bench, numbers):
    """Tell the ringing of the board."""
    return counted(bench.trials.rings_now())


def meets_target(bench, numbers):
    """Tell whether the board meets the target."""
    if bench.trials.rings_now() == sorted(bench.target):
        return [1]
    return [0]


def repairs(bench, numbers):
    """List the repairs."""
    told = []
    for place, sign in bench.trials.repairs_among(bench.palette, bench.target):
        told.append(position_of(bench, place) + (ord(sign),))
    return counted(told)


def idle_cells(bench, numbers):
    """List the idle cells."""
    return counted([position_of(bench, place) for place in bench.trials.idle_places()])


def count_changes(bench, numbers):
    """Count the noticeable changes, and all changes."""
    return [len(bench.trials.noticeable_among(bench.palette)), len(bench.trials.changes_among(bench.palette))]


def apply_repair(bench, numbers):
    """Apply a repair to the board."""
    index = numbers[0]
    found = bench.trials.repairs_among(bench.palette, bench.target)
    if index < 0 or index >= len(found):
        return refusal(NO_REPAIR)
    place, sign = found[index]
    changed = bench.trials.board.changed(place, sign)
    bench.trials = Trials(changed, bench.trials.drops, bench.trials.horizon)
    column, row = position_of(bench, place)
    return [ord(sign), column, row]


def board(bench, numbers):
    """Tell the size and the cells of the board."""
    shown = bench.trials.board
    return [shown.width, shown.height] + [ord(cell.sign) for cell in shown.cells]


def path(bench, numbers):
    """Tell the positions of a marble."""
    marble = numbers[0]
    trials = bench.trials
    if marble < 0 or marble >= len(trials.drops):
        return refusal(OUT_OF_RANGE)
    places = find_path(trials.board, trials.drops, trials.horizon, marble)
    return counted([position_of(bench, place) for place in places])


OPERATIONS = {
    1: load,
    2: set_palette,
    3: set_horizon,
    4: want_ring,
    5: clear_target,
    6: ringing,
    7: meets_target,
    8: repairs,
    9: idle_cells,
    10: count_changes,
    11: apply_repair,
    12: board,
    13: path,
}


def answer(bench, operation, numbers):
    """Answer one call."""
    if operation != LOAD and bench.trials.board is None:
        return refusal(NO_TEXT)
    return OPERATIONS[operation](bench, numbers)


def answers(calls):
    """Answer a list of calls: for each, how many numbers are answered, and these."""
    bench = Bench()
    told = []
    position = 0
    while position < len(calls):
        first = position + 2
        behind = first + calls[position + 1]
        numbers = answer(bench, calls[position], calls[first:behind])
        told.append(len(numbers))
        told.extend(numbers)
        # No call is handed a list, so each ends with one number more, a 0.
        position = behind + 1
    return told
