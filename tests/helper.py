"""What the tests share: calls as they are handed in, and answers taken apart again."""

import unittest

from chutes.mending import answers

BIG = 2 ** 53


def call(number, *numbers):
    return [number, len(numbers), *numbers, 0]


def load(text):
    return call(1, *[ord(sign) for sign in text])


def set_palette(characters):
    return call(2, *[ord(sign) for sign in characters])


def set_horizon(ticks):
    return call(3, ticks)


def want_ring(tick, marble):
    return call(4, tick, marble)


def apply_repair(index):
    return call(11, index)


def path(marble):
    return call(13, marble)


CLEAR_TARGET = call(5)
RINGING = call(6)
MEETS_TARGET = call(7)
REPAIRS = call(8)
IDLE_CELLS = call(9)
COUNT_CHANGES = call(10)
BOARD = call(12)


def run(*calls):
    """The answers to these calls, handed in at once: a list for each."""
    told = answers([number for one in calls for number in one])
    taken = []
    while told:
        taken.append(told[1:told[0] + 1])
        told = told[told[0] + 1:]
    return taken


class TextCase(unittest.TestCase):
    """Checks of what load answers."""

    def good(self, text, *told):
        with self.subTest(text=text):
            self.assertEqual(run(load(text)), [list(told)])

    def bad(self, text, line, code):
        with self.subTest(text=text):
            self.assertEqual(run(load(text)), [[-(100 * line + code + 10)]])


def part(name, rows, *puts):
    """The text of a part with these rows."""
    lines = [f"part {name} {len(rows[0])} {len(rows)}"]
    lines += [":" + row for row in rows]
    return "\n".join(lines + list(puts) + ["end"]) + "\n"


def grouped(told, size):
    """The groups of an answer that tells how many there are, then the numbers of each."""
    assert len(told) == 1 + size * told[0], told
    return [tuple(told[at:at + size]) for at in range(1, len(told), size)]


def rings_of(text, horizon=40):
    """The ringing of the board of a text, as pairs of a tick and a marble."""
    loaded, horizon_set, told = run(load(text), set_horizon(horizon), RINGING)
    assert len(loaded) == 3 and horizon_set == [0], (loaded, horizon_set)
    return grouped(told, 2)


def rings(rows, *drops, horizon=40):
    """The ringing of a board with these rows; a drop is written without its first word."""
    return rings_of(plain(rows, *drops), horizon)


def plain(rows, *drops):
    """The text of a board with these rows; a drop is written without its first word."""
    return part("a", rows) + "\n".join("drop " + drop for drop in drops)


def coded(repairs):
    """Repairs that are written with the new character, as they are told: with its byte."""
    return [(column, row, ord(sign)) for column, row, sign in repairs]
