"""How calls are handed in and answered, what load sets anew, and the palette, the horizon and the target."""

import unittest

from chutes.mending import answers
from tests.helper import (
    BIG, BOARD, CLEAR_TARGET, COUNT_CHANGES, IDLE_CELLS, MEETS_TARGET, REPAIRS, RINGING, apply_repair, call, coded,
    grouped, load, part, path, run, set_horizon, set_palette, want_ring,
)

GOOD = part("a", [".", "!", "."]) + "drop 0 1"
SILENT = part("a", ["."])
NOT_LOADED = [-7]

# Each call but load, with good and with bad numbers.
OTHER_CALLS = [
    set_palette("."), call(2), call(2, -1), call(2, *[46] * 20), call(2, BIG),
    set_horizon(1), set_horizon(0), set_horizon(BIG), set_horizon(-BIG),
    want_ring(1, 0), want_ring(0, 0), want_ring(BIG, -BIG),
    CLEAR_TARGET, RINGING, MEETS_TARGET,
    call(8), call(9), call(10), call(11, 0), call(11, -1), call(11, BIG), call(12), call(13, 0), call(13, -BIG),
]


class HandingIn(unittest.TestCase):
    def test_answers_are_counted(self):
        calls = RINGING + load(GOOD) + RINGING + CLEAR_TARGET + set_horizon(0)
        self.assertEqual(answers(calls), [1, -7, 3, 1, 3, 1, 3, 1, 2, 0, 1, 0, 1, -2])

    def test_whole_numbers_are_answered(self):
        told = answers(load(GOOD) + RINGING + want_ring(2, 0) + MEETS_TARGET + set_horizon(1) + MEETS_TARGET
                       + CLEAR_TARGET + REPAIRS + IDLE_CELLS + COUNT_CHANGES + apply_repair(0) + BOARD + path(0))
        self.assertEqual({type(number) for number in told}, {int})
        self.assertIs(type(told), list)

    def test_what_is_handed_in_stays_the_same(self):
        calls = load(GOOD) + set_palette("U.") + want_ring(2, 0) + set_horizon(7) + RINGING + MEETS_TARGET
        calls += REPAIRS + IDLE_CELLS + COUNT_CHANGES + apply_repair(0) + BOARD + path(0) + apply_repair(-1)
        before = list(calls)
        first = answers(calls)
        self.assertEqual(calls, before)
        self.assertEqual(answers(calls), first)
        self.assertEqual(calls, before)

    def test_nothing_is_kept(self):
        answers(load(GOOD) + want_ring(2, 0) + set_horizon(1))
        self.assertEqual(run(RINGING), [NOT_LOADED])
        self.assertEqual(run(load(GOOD), RINGING, CLEAR_TARGET), [[1, 3, 1], [1, 2, 0], [0]])

    def test_no_changed_board_is_kept(self):
        calls = [load(GOOD), want_ring(2, 0), BOARD, apply_repair(0), BOARD]
        expected = [[1, 3, 1], [1], [1, 3, 46, 33, 46], [92, 0, 2], [1, 3, 46, 33, 92]]
        self.assertEqual(run(*calls), expected)
        self.assertEqual(run(*calls), expected)

    def test_twenty_calls_and_four_long_texts(self):
        text = part("a", ["!"]) + "drop 0 1\n;"
        text += "x" * (4000 - len(text))
        calls = [load(text), RINGING] * 4 + [MEETS_TARGET] * 12
        self.assertEqual(run(*calls), [[1, 1, 1], [1, 1, 0]] * 4 + [[0]] * 12)


class NotLoaded(unittest.TestCase):
    def test_before_a_text_is_loaded(self):
        for other in OTHER_CALLS:
            with self.subTest(other=other):
                self.assertEqual(run(other), [NOT_LOADED])

    def test_after_a_load_that_failed(self):
        failures = [("", -216), ("part", -111), ("\t", -2), (part("a", ["." * 19] * 2), -4)]
        for text, error in failures:
            for other in OTHER_CALLS:
                with self.subTest(text=text, other=other):
                    self.assertEqual(run(load(text), other, other), [[error], NOT_LOADED, NOT_LOADED])

    def test_a_refused_call_keeps_nothing(self):
        told = run(want_ring(2, 0), set_horizon(1), load(GOOD), RINGING, CLEAR_TARGET)
        self.assertEqual(told, [NOT_LOADED, NOT_LOADED, [1, 3, 1], [1, 2, 0], [0]])


class LoadingAgain(unittest.TestCase):
    def test_a_failed_load_changes_nothing(self):
        for text in ["", "part a 1 1\n:!\nend\ndrop 1 1", "\t", part("a", ["." * 19] * 2), "x" * 4001]:
            with self.subTest(text=text[:20]):
                told = run(load(GOOD), set_horizon(3), want_ring(2, 0), load(text), RINGING, MEETS_TARGET,
                           want_ring(2, 0), CLEAR_TARGET)
                self.assertEqual(told[4:], [[1, 2, 0], [1], [-4], [1]])

    def test_a_failed_load_keeps_the_changed_board(self):
        for text in ["", "part a 1 1\n:!\nend\ndrop 1 1", "\t", part("a", ["." * 19] * 2), "x" * 4001]:
            with self.subTest(text=text[:20]):
                told = run(load(GOOD), set_palette("#."), want_ring(2, 0), apply_repair(0), load(text), BOARD,
                           REPAIRS, COUNT_CHANGES, path(0), MEETS_TARGET)
                self.assertEqual(told[3], [35, 0, 2])
                self.assertEqual(told[5:7], [[1, 3, 46, 33, 35], [1, 0, 2, 46]])
                self.assertEqual(told[7:], [[3, 4], [40, 0, 0] + [0, 1] * 39, [1]])

    def test_a_failed_load_keeps_the_horizon(self):
        told = run(load(GOOD), set_horizon(1), load("part"), RINGING)
        self.assertEqual(told, [[1, 3, 1], [0], [-111], [0]])

    def test_a_good_load_begins_anew(self):
        told = run(load(GOOD), set_horizon(1), want_ring(2, 0), load(GOOD), RINGING, MEETS_TARGET, CLEAR_TARGET)
        self.assertEqual(told[4:], [[1, 2, 0], [0], [0]])

    def test_a_good_load_brings_the_first_board_back(self):
        told = run(load(GOOD), set_palette("#."), set_horizon(3), want_ring(2, 0), apply_repair(0), load(GOOD), BOARD,
                   REPAIRS, COUNT_CHANGES, path(0), set_horizon(40), path(0))
        self.assertEqual(told[4:7], [[35, 0, 2], [1, 3, 1], [1, 3, 46, 33, 46]])
        silent = coded([(0, 0, "\\"), (0, 0, "/"), (0, 1, "."), (0, 1, "\\"), (0, 1, "/")])
        self.assertEqual(grouped(told[7], 3), silent)
        self.assertEqual(told[8:], [[5, 7], [3, 0, 0, 0, 1, 0, 2], [0], [3, 0, 0, 0, 1, 0, 2]])

    def test_initial_palette(self):
        self.assertEqual(run(load(SILENT), REPAIRS), [[1, 1, 0], [2, 0, 0, 92, 0, 0, 47]])

    def test_a_good_load_brings_its_own_marbles(self):
        told = run(load(GOOD), load(part("b", ["!."]) + "drop 1 1\ndrop 0 2"), RINGING)
        self.assertEqual(told[1:], [[2, 1, 2], [1, 2, 1]])

    def test_initial_horizon(self):
        text = part("a", ["!"]) + "drop 0 40\ndrop 0 41"
        self.assertEqual(run(load(text), RINGING), [[1, 1, 2], [1, 40, 0]])


class Palette(unittest.TestCase):
    def check(self, numbers, told):
        with self.subTest(numbers=numbers):
            self.assertEqual(run(load(SILENT), call(2, *numbers)), [[1, 1, 0], [told]])

    def test_each_cell_character(self):
        for sign in ".#\\/><^YyU!OabcdefABCDEF23456789":
            self.check([ord(sign)], 1)

    def test_no_cell_character(self):
        allowed = [ord(sign) for sign in ".#\\/><^YyU!OabcdefABCDEF23456789"]
        for number in range(-1, 300):
            if number not in allowed:
                self.check([number], -2)
                self.check([46, number], -2)
        for number in [BIG, -BIG, -46, 46 + 256]:
            self.check([number], -2)

    def test_how_many(self):
        twelve = [ord(sign) for sign in "abcdefABCDEF"]
        self.check([], -2)
        self.check(twelve[:11], 11)
        self.check(twelve, 12)
        self.check(twelve + [46], -2)
        self.check((twelve + [ord(sign) for sign in "23456789"]), -2)

    def test_equal_characters(self):
        self.check([46, 46], -2)
        self.check([46, 35, 46], -2)
        self.check([46, 35, 33], 3)

    def test_what_is_kept(self):
        for failing in [[], [46, 46], [10], [46] * 13, [-46], [BIG]]:
            told = run(load(SILENT), set_palette("U.!"), call(2, *failing), REPAIRS)
            self.assertEqual(told[2:], [[-2], [2, 0, 0, ord("U"), 0, 0, ord("!")]])
        told = run(load(SILENT), set_palette("U.!"), load(""), REPAIRS, set_palette("#"), REPAIRS,
                   load(SILENT), REPAIRS)
        self.assertEqual(told[3], [2, 0, 0, ord("U"), 0, 0, ord("!")])
        self.assertEqual(told[5:], [[1, 0, 0, ord("#")], [1, 1, 0], [2, 0, 0, 92, 0, 0, 47]])

    def test_a_failed_one_changes_nothing_else(self):
        told = run(load(GOOD), want_ring(2, 0), call(2), MEETS_TARGET, CLEAR_TARGET)
        self.assertEqual(told[2:], [[-2], [1], [1]])


class Horizon(unittest.TestCase):
    def test_range(self):
        for ticks in [1, 2, 39, 40]:
            self.assertEqual(run(load(SILENT), set_horizon(ticks))[1], [0])
        for ticks in [0, 41, -1, -40, BIG, -BIG]:
            self.assertEqual(run(load(SILENT), set_horizon(ticks))[1], [-2])

    def test_a_failed_one_changes_nothing(self):
        for ticks in [0, 41, -1, BIG]:
            self.assertEqual(run(load(GOOD), set_horizon(1), set_horizon(ticks), RINGING)[2:], [[-2], [0]])

    def test_the_target_stays(self):
        self.assertEqual(run(load(GOOD), want_ring(2, 0), set_horizon(1), CLEAR_TARGET)[3], [1])


class Target(unittest.TestCase):
    def test_ends_of_the_ranges(self):
        told = run(load(GOOD), want_ring(1, 0), want_ring(40, 39), want_ring(1, 39), want_ring(40, 0), CLEAR_TARGET)
        self.assertEqual(told[1:], [[1], [2], [3], [4], [4]])

    def test_beyond_the_ranges(self):
        for tick, marble in [(0, 0), (41, 0), (-1, 0), (1, -1), (1, 40), (0, 40), (BIG, 0), (1, BIG), (-BIG, -BIG)]:
            with self.subTest(tick=tick, marble=marble):
                self.assertEqual(run(load(GOOD), want_ring(tick, marble), CLEAR_TARGET)[1:], [[-2], [0]])

    def test_a_pair_twice(self):
        told = run(load(GOOD), want_ring(3, 4), want_ring(4, 3), want_ring(3, 4), want_ring(0, 4), CLEAR_TARGET)
        self.assertEqual(told[1:], [[1], [2], [-4], [-2], [2]])

    def test_a_cleared_pair_can_be_added_again(self):
        told = run(load(GOOD), want_ring(3, 4), CLEAR_TARGET, CLEAR_TARGET, want_ring(3, 4))
        self.assertEqual(told[1:], [[1], [1], [0], [1]])


class MeetsTarget(unittest.TestCase):
    BOTH = part("a", ["..", "!!"]) + "drop 1 1\ndrop 0 1"

    def meets(self, text, *pairs):
        return run(load(text), *[want_ring(*pair) for pair in pairs], MEETS_TARGET)[-1]

    def test_empty_target(self):
        self.assertEqual(self.meets(SILENT), [1])
        self.assertEqual(self.meets(GOOD), [0])

    def test_exactly_the_pairs(self):
        self.assertEqual(self.meets(self.BOTH, (2, 0), (2, 1)), [1])
        self.assertEqual(self.meets(self.BOTH, (2, 1), (2, 0)), [1])

    def test_a_pair_missing(self):
        self.assertEqual(self.meets(self.BOTH, (2, 0)), [0])
        self.assertEqual(self.meets(self.BOTH, (2, 1)), [0])

    def test_a_pair_too_many(self):
        self.assertEqual(self.meets(self.BOTH, (2, 0), (2, 1), (3, 0)), [0])
        self.assertEqual(self.meets(SILENT, (1, 0)), [0])

    def test_another_pair(self):
        self.assertEqual(self.meets(GOOD, (3, 0)), [0])
        self.assertEqual(self.meets(GOOD, (2, 1)), [0])

    def test_a_pair_behind_the_horizon(self):
        told = run(load(GOOD), want_ring(2, 0), want_ring(9, 0), set_horizon(8), MEETS_TARGET)
        self.assertEqual(told[-1], [0])
        told = run(load(GOOD), want_ring(9, 0), set_horizon(1), MEETS_TARGET)
        self.assertEqual(told[-1], [0])
