"""The rows of the document's examples that the calls built so far answer."""

import unittest

from tests.helper import CLEAR_TARGET, MEETS_TARGET, RINGING, load, run, set_horizon, want_ring


class Examples(unittest.TestCase):
    def check(self, rows):
        self.assertEqual(run(*[row[0] for row in rows]), [row[1] for row in rows])

    def test_first_list(self):
        self.check([
            (RINGING, [-7]),
            (load("part a 1 3\n:.\n:!\n:.\nend\ndrop 0 1"), [1, 3, 1]),
            (RINGING, [1, 2, 0]),
            (MEETS_TARGET, [0]),
            (want_ring(2, 0), [1]),
            (MEETS_TARGET, [1]),
            (want_ring(2, 0), [-4]),
            (set_horizon(1), [0]),
            (RINGING, [0]),
            (MEETS_TARGET, [0]),
            (set_horizon(4), [0]),
        ])

    def test_second_list(self):
        self.check([
            (load("part a 3 3\n:.Y.\n:!.!\n:...\nend\ndrop 1 1 every 2 times 2"), [3, 3, 2]),
            (RINGING, [2, 2, 0, 4, 1]),
            (set_horizon(3), [0]),
            (RINGING, [1, 2, 0]),
            (set_horizon(5), [0]),
            (want_ring(2, 0), [1]),
            (want_ring(4, 1), [2]),
            (MEETS_TARGET, [1]),
            (want_ring(2, 1), [3]),
            (MEETS_TARGET, [0]),
            (CLEAR_TARGET, [3]),
            (MEETS_TARGET, [0]),
        ])
