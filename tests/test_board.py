"""The board as it is shown, its idle cells, and the paths of its marbles."""

import unittest

from tests.helper import (
    BIG, BOARD, COUNT_CHANGES, IDLE_CELLS, RINGING, apply_repair, grouped, load, part, path, plain, rings, rings_of,
    run, set_horizon, set_palette, want_ring,
)

CHARACTERS = ".#\\/><^YyU!OabcdefABCDEF23456789"


class Board(unittest.TestCase):
    def shown(self, text):
        """The rows of the board of a text."""
        width, height, *cells = run(load(text), BOARD)[1]
        self.assertEqual(len(cells), width * height)
        return ["".join(chr(cell) for cell in cells[at:at + width]) for at in range(0, len(cells), width)]

    def test_width_then_height_then_the_cells_row_by_row(self):
        told = run(load(part("a", ["#./", "U!O"])), BOARD)
        self.assertEqual(told[1], [3, 2] + [ord(sign) for sign in "#./U!O"])
        self.assertEqual(run(load(part("a", ["#"])), BOARD)[1], [1, 1, 35])

    def test_each_character(self):
        for sign in CHARACTERS:
            self.assertEqual(self.shown(part("a", [sign + "."])), [sign + "."])

    def test_the_largest_board(self):
        rows = ["#.#.#.", "......", "!!!!!!", "abcdef", "ABCDEF", "234567"]
        self.assertEqual(self.shown(part("a", rows)), rows)
        rows = ["#." * 12]
        self.assertEqual(self.shown(part("a", rows)), rows)

    def test_copies(self):
        text = part("c", ["aA", ".2"]) + part("a", ["#...", "....", "...!"], "put c 1 0", "put c 0 1")
        self.assertEqual(self.shown(text), ["#aA.", "aA2.", ".2.!"])

    def test_mirrored_cells(self):
        text = part("c", [CHARACTERS[:12], CHARACTERS[12:24]]) + part("a", ["." * 12] * 2, "put c 0 0 mirror")
        self.assertEqual(self.shown(text), ["O!UYy^><\\/#.", "FEDCBAfedcba"])
        text = part("c", ["23456789"]) + part("a", ["." * 8], "put c 0 0 mirror")
        self.assertEqual(self.shown(text), ["98765432"])

    def test_cells_mirrored_twice(self):
        text = part("c", ["\\>Y2."]) + part("d", ["....."], "put c 0 0 mirror")
        self.assertEqual(self.shown(text), [".2y</"])
        self.assertEqual(self.shown(text + part("a", ["....."], "put d 0 0 mirror")), ["\\>Y2."])

    def test_marbles_do_not_show(self):
        told = run(load(plain(["aU", "!Y"], "0 1 every 1 times 9", "1 1")), BOARD, RINGING, BOARD, path(0), BOARD)
        for shown in told[1::2]:
            self.assertEqual(shown, [2, 2] + [ord(sign) for sign in "aU!Y"])


class IdleCells(unittest.TestCase):
    def check(self, text, expected, horizon=40):
        with self.subTest(text=text, horizon=horizon):
            self.assertEqual(grouped(run(load(text), set_horizon(horizon), IDLE_CELLS)[-1], 2), expected)

    def test_air_is_never_idle(self):
        self.check(part("a", ["...", "..."]), [])
        self.check(plain(["...", "..."], "0 1"), [])

    def test_all_but_air_without_marbles(self):
        rows = [CHARACTERS[:8], CHARACTERS[8:16], CHARACTERS[16:24], CHARACTERS[24:]]
        cells = [(x, y) for y in range(4) for x in range(8)]
        self.check(part("a", rows), cells[1:])

    def test_row_by_row(self):
        self.check(part("a", [".#", "#.", "##"]), [(1, 0), (0, 1), (0, 2), (1, 2)])

    def test_walls_and_bins(self):
        self.check(plain([".#", "!U", "##"], "0 1"), [(1, 0), (1, 1), (0, 2), (1, 2)])
        self.check(plain(["..", "#U", "!!"], "0 1", "1 1"), [(0, 2), (1, 2)])

    def test_plates_and_gates(self):
        self.check(plain(["aAb", "!!!"], "0 1", "2 1"), [(0, 0), (1, 0), (2, 0), (1, 1)])
        self.check(plain(["aAb", "!!!"], "0 1", "1 5", "2 1"), [(1, 0), (2, 0)])
        self.check(plain(["aAb", "!!!"], "0 6", "1 5", "2 1"), [(2, 0)])

    def test_bells_slopes_and_flips(self):
        self.check(plain(["\\.", ".!"], "0 1"), [])
        self.check(plain(["Y.", "!!"], "0 1 every 2 times 2"), [(0, 1)])
        self.check(plain(["2.", "!."], "0 1"), [(0, 0)])
        self.check(plain(["2.", "!."], "0 1 every 2 times 2"), [])

    def test_a_ring_of_another_bell_is_the_same_ring(self):
        self.check(plain(["\\.", "!!"], "0 1"), [(0, 0), (0, 1)])
        self.check(plain(["2.", "!!"], "0 1 every 2 times 2"), [(0, 0)])

    def test_the_horizon_counts(self):
        text = plain([".", "!", "#", "!"], "0 1 every 1 times 3")
        self.check(text, [(0, 1), (0, 2), (0, 3)], horizon=1)
        self.check(text, [(0, 2), (0, 3)], horizon=2)
        self.check(text, [(0, 3)], horizon=3)
        text = plain(["!", "!", "#"], "0 1 every 1 times 2")
        self.check(text, [(0, 1), (0, 2)], horizon=1)
        self.check(text, [(0, 2)], horizon=2)
        self.check(text, [], horizon=3)
        self.check(plain(["!", "U", "!"], "0 1"), [(0, 1), (0, 2)], horizon=2)
        self.check(plain(["!", "U", "!"], "0 1"), [(0, 2)], horizon=3)

    def test_the_palette_and_the_target_do_not_count(self):
        text = plain([".#", "!U", "##"], "0 1")
        for palette in ["#", "!", "23", "U#!"]:
            told = run(load(text), set_palette(palette), want_ring(5, 5), IDLE_CELLS)
            self.assertEqual(told[-1], [4, 1, 0, 1, 1, 0, 2, 1, 2])

    def test_column_then_row(self):
        self.check(plain(["....", "...#"], "0 1"), [(3, 1)])

    def test_cells_of_copies(self):
        text = part("g", ["A", "!"]) + part("a", ["a.", ".."], "put g 1 0") + "drop 1 1\ndrop 0 3"
        self.check(text, [(0, 0), (1, 1)])

    def test_air_instead_of_an_idle_cell_does_not_change_the_ringing(self):
        boards = [
            (["#.a#", "\\!/U", "<<>>"], ["1 0 every 2 times 3", "2 1"]),
            ([".O.", ".>^", "!.!", ".U."], ["1 0 every 1 times 5", "0 3"]),
            (["a.b", ".A.", ".!."], ["0 2", "1 0 every 3 times 2", "2 3"]),
            ([".y.", "!3!", ".!."], ["1 0 every 1 times 6"]),
        ]
        for rows, drops in boards:
            found = grouped(run(load(plain(rows, *drops)), IDLE_CELLS)[1], 2)
            for x, y in [(x, y) for y in range(len(rows)) for x in range(len(rows[0]))]:
                changed = rows[:y] + [rows[y][:x] + "." + rows[y][x + 1:]] + rows[y + 1:]
                same = rings(changed, *drops) == rings(rows, *drops)
                with self.subTest(rows=rows, x=x, y=y):
                    self.assertEqual((x, y) in found, same and rows[y][x] != ".")

    def test_each_board_stays_the_same(self):
        told = run(load(plain(["#.", "!!"], "0 1", "1 1")), IDLE_CELLS, BOARD, IDLE_CELLS, RINGING, COUNT_CHANGES)
        self.assertEqual(told[1:], [[1, 0, 1], [2, 2, 35, 46, 33, 33], [1, 0, 1], [1, 2, 1], [6, 11]])


class Path(unittest.TestCase):
    def check(self, rows, drops, marble, expected, horizon=40):
        with self.subTest(rows=rows, drops=drops, marble=marble, horizon=horizon):
            told = run(load(plain(rows, *drops)), set_horizon(horizon), path(marble))[-1]
            self.assertEqual(grouped(told, 2), expected)

    def test_column_then_row(self):
        self.check(["...", "..."], ["2 1"], 0, [(2, 0), (2, 1)])
        self.check([".\\.", "..<"], ["1 1"], 0, [(1, 0), (2, 1)] + [(1, 1)])

    def test_ticks_before_a_marble_enters_are_left_out(self):
        for tick in [0, 1, 5, 39]:
            self.check([".", "."], [f"0 {tick}"], 0, [(0, 0), (0, 1)])
        self.check([".", "."], ["0 40"], 0, [(0, 0)])
        self.check([".", "."], ["0 1", "0 1", "0 1"], 2, [(0, 0), (0, 1)])

    def test_ticks_after_it_is_out_are_left_out(self):
        self.check(["."], ["0 1"], 0, [(0, 0)])
        self.check([">.", ".."], ["0 1"], 0, [(0, 0), (1, 0), (1, 1)])

    def test_ticks_after_a_bin_took_it_are_left_out(self):
        self.check(["U", "."], ["0 1"], 0, [])
        self.check([".", "U", "."], ["0 1"], 0, [(0, 0)])
        self.check([".", "U", "."], ["0 1 every 1 times 3"], 1, [(0, 0)])

    def test_a_marble_that_never_enters(self):
        self.check(["#", "."], ["0 1"], 0, [])
        self.check(["A"], ["0 1", "0 1"], 1, [])
        self.check(["."], ["0 999"], 0, [])

    def test_ticks_past_the_horizon_are_left_out(self):
        self.check(["."], ["0 41"], 0, [])
        self.check(["."] * 6, ["0 1"], 0, [(0, 0)], horizon=1)
        self.check(["."] * 6, ["0 1"], 0, [(0, 0), (0, 1), (0, 2)], horizon=3)
        self.check(["."] * 6, ["0 3"], 0, [], horizon=2)
        self.check(["."] * 6, ["0 3"], 0, [(0, 0)], horizon=3)

    def test_a_tick_in_the_same_cell_counts(self):
        self.check([".", "#"], ["0 1"], 0, [(0, 0)] * 40)
        self.check([".", "#"], ["0 31"], 0, [(0, 0)] * 10)
        self.check(["A.", ".a"], ["0 1", "1 3"], 0, [(0, 0)] * 4 + [(0, 1)])

    def test_a_cell_more_than_once(self):
        self.check(["><"], ["0 1"], 0, [(0, 0), (1, 0)] * 20)
        self.check(["..", "^<"], ["1 1"], 0, [(1, 0), (1, 1), (0, 1), (0, 0), (0, 1)], horizon=5)

    def test_each_of_several_marbles(self):
        rows = ["Y..", "..<", "..."]
        drops = ["0 1", "2 1", "0 2", "1 9"]
        self.check(rows, drops, 0, [(0, 0), (1, 1), (1, 2)])
        self.check(rows, drops, 1, [(2, 0), (2, 1), (1, 1), (1, 2)])
        self.check(rows, drops, 2, [(0, 0)] * 39)
        self.check(rows, drops, 3, [(1, 0), (1, 1), (1, 2)])

    def test_marbles_at_the_same_time(self):
        for marble in range(6):
            self.check(["......"] * 2, [f"{column} 1" for column in range(6)], marble, [(marble, 0), (marble, 1)])
        for marble in range(40):
            self.check([".", "."], ["0 1 every 1 times 40"], marble, [(0, 0), (0, 1)][:40 - marble])

    def test_no_such_marble(self):
        for drops, count in [([], 0), (["0 1"], 1), (["0 1", "0 2 every 1 times 2"], 3)]:
            text = plain(["."], *drops)
            for marble in [-1, count, count + 1, 39, 40, BIG, -BIG, -count - 1]:
                with self.subTest(drops=drops, marble=marble):
                    self.assertEqual(run(load(text), path(marble)), [[1, 1, count], [-2]])
            for marble in range(count):
                self.assertEqual(run(load(text), path(marble))[1], [1, 0, 0])

    def test_the_last_of_forty_marbles(self):
        text = plain(["."], "0 1 every 1 times 40")
        self.assertEqual(run(load(text), path(39), path(40))[1:], [[1, 0, 0], [-2]])

    def test_the_bells_on_the_path_ring(self):
        text = plain(["..!", "!<.", ".!^"], "2 1")
        told = grouped(run(load(text), path(0))[1], 2)
        ticks = [(tick, 0) for tick, cell in enumerate(told, start=1) if cell in [(2, 0), (0, 1), (1, 2)]]
        self.assertEqual(rings_of(text), ticks)


class RingingOfAChangedBoard(unittest.TestCase):
    """Promise 5, over a board that was changed."""

    def test_sorted_and_within_the_horizon(self):
        text = plain(["#..", "!!!", "..."], "2 4 every 2 times 3", "1 4 every 2 times 3", "0 4 every 2 times 3")
        for horizon in range(1, 12):
            pairs = [(tick, marble) for tick in (5, 7, 9) if tick <= horizon
                     for marble in ((tick - 5) // 2, (tick - 5) // 2 + 3, (tick - 5) // 2 + 6)]
            wanted = [want_ring(*pair) for pair in reversed(pairs)]
            told = run(load(text), set_palette("."), set_horizon(horizon), *wanted, apply_repair(0), RINGING)
            with self.subTest(horizon=horizon):
                self.assertEqual(told[-2], [46, 0, 0])
                self.assertEqual(grouped(told[-1], 2), pairs)
