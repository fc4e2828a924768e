"""All rows of the document's examples, each list of calls handed in at once."""

import unittest

from tests.helper import (
    BOARD, CLEAR_TARGET, COUNT_CHANGES, IDLE_CELLS, MEETS_TARGET, REPAIRS, RINGING, apply_repair, load, path, run,
    set_horizon, want_ring,
)


class Examples(unittest.TestCase):
    def check(self, rows):
        self.assertEqual(run(*[row[0] for row in rows]), [row[1] for row in rows])

    def test_first_list(self):
        self.check([
            (RINGING, [-7]),
            (load("part a 1 3\n:.\n:!\n:.\nend\ndrop 0 1"), [1, 3, 1]),
            (RINGING, [1, 2, 0]),
            (MEETS_TARGET, [0]),
            (want_ring(2, 0), [1]),
            (MEETS_TARGET, [1]),
            (want_ring(2, 0), [-4]),
            (set_horizon(1), [0]),
            (RINGING, [0]),
            (MEETS_TARGET, [0]),
            (set_horizon(4), [0]),
            (path(0), [3, 0, 0, 0, 1, 0, 2]),
            (REPAIRS, [2, 0, 2, 92, 0, 2, 47]),
            (IDLE_CELLS, [0]),
            (COUNT_CHANGES, [5, 7]),
            (apply_repair(0), [92, 0, 2]),
            (BOARD, [1, 3, 46, 33, 92]),
            (path(0), [4, 0, 0, 0, 1, 0, 2, 0, 2]),
            (apply_repair(5), [-3]),
        ])

    def test_second_list(self):
        self.check([
            (load("part a 3 3\n:.Y.\n:!.!\n:...\nend\ndrop 1 1 every 2 times 2"), [3, 3, 2]),
            (RINGING, [2, 2, 0, 4, 1]),
            (set_horizon(3), [0]),
            (RINGING, [1, 2, 0]),
            (set_horizon(5), [0]),
            (path(1), [3, 1, 0, 0, 1, 0, 2]),
            (want_ring(2, 0), [1]),
            (want_ring(4, 1), [2]),
            (MEETS_TARGET, [1]),
            (IDLE_CELLS, [0]),
            (want_ring(2, 1), [3]),
            (MEETS_TARGET, [0]),
            (CLEAR_TARGET, [3]),
            (MEETS_TARGET, [0]),
        ])
