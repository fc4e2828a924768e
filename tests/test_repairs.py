"""Changes of a single cell: repairs, the changes that are counted, and repairs that are applied."""

import unittest

from tests.helper import (
    BIG, BOARD, CLEAR_TARGET, COUNT_CHANGES, IDLE_CELLS, MEETS_TARGET, REPAIRS, RINGING, apply_repair, coded, grouped,
    load, part, path, plain, rings, run, set_horizon, set_palette, want_ring,
)

CHARACTERS = ".#\\/><^YyU!OabcdefABCDEF23456789"
TWELVES = [CHARACTERS[:12], CHARACTERS[12:24], CHARACTERS[20:]]
GOOD = part("a", [".", "!", "."]) + "drop 0 1"
STONES = part("a", ["##", "##"])

# Boards without copies: their rows, their drops, a palette and a horizon.
BOARDS = [
    (["...", "!.!", "..."], ["0 1", "2 2"], ".\\/", 40),
    ([".Y.", "!2!", "\\!/"], ["1 1 every 1 times 5"], "#.yU!", 40),
    (["aA.", "b!B", "..!"], ["1 1", "2 1", "0 3"], "abAB.O", 12),
    ([">O<", ".!.", ".^<"], ["1 1", "0 4", "2 6"], "O.^><", 9),
    (["2>!", "!<3", "U#."], ["0 1 every 2 times 4", "2 2"], "23456789", 20),
    (["!"], ["0 1 every 3 times 4"], "#.a", 7),
    (["!#!.<U"], ["0 1", "2 1", "4 2"], "!", 1),
]


def repairs_told(text, palette, pairs, horizon=40):
    """The repairs of the board of a text, as they are told."""
    wanted = [want_ring(*pair) for pair in pairs]
    return grouped(run(load(text), set_palette(palette), set_horizon(horizon), *wanted, REPAIRS)[-1], 3)


def counts_told(text, palette, horizon=40):
    """How many changes of the board of a text are noticeable, and how many there are."""
    return run(load(text), set_palette(palette), set_horizon(horizon), COUNT_CHANGES)[-1]


def changes_of(rows, palette):
    """All changes of a board with these rows, in order."""
    cells = [(column, row) for row in range(len(rows)) for column in range(len(rows[0]))]
    return [(x, y, sign) for x, y in cells for sign in palette if sign != rows[y][x]]


def changed(rows, change):
    """The rows of a board after a change."""
    x, y, sign = change
    return rows[:y] + [rows[y][:x] + sign + rows[y][x + 1:]] + rows[y + 1:]


class EachChange(unittest.TestCase):
    """Promises 1 and 4, and what is counted: each change is told as a text with the changed rows tells of it."""

    def test_repairs_are_the_changes_that_meet_the_target(self):
        for rows, drops, palette, horizon in BOARDS:
            after = [(one, rings(changed(rows, one), *drops, horizon=horizon)) for one in changes_of(rows, palette)]
            targets = [[]] + [found for one, found in after]
            for target in [one for at, one in enumerate(targets) if one not in targets[:at]]:
                with self.subTest(rows=rows, target=target):
                    told = repairs_told(plain(rows, *drops), palette, target, horizon)
                    self.assertEqual(told, coded([one for one, found in after if found == target]))

    def test_noticeable_changes_are_those_that_change_the_ringing(self):
        for rows, drops, palette, horizon in BOARDS:
            as_is = rings(rows, *drops, horizon=horizon)
            changes = changes_of(rows, palette)
            noticeable = [one for one in changes if rings(changed(rows, one), *drops, horizon=horizon) != as_is]
            with self.subTest(rows=rows):
                self.assertEqual(counts_told(plain(rows, *drops), palette, horizon), [len(noticeable), len(changes)])

    def test_where_the_target_is_met_repairs_are_not_noticeable(self):
        for rows, drops, palette, horizon in BOARDS:
            target = rings(rows, *drops, horizon=horizon)
            text = plain(rows, *drops)
            wanted = [want_ring(*pair) for pair in target]
            told = run(load(text), set_palette(palette), set_horizon(horizon), *wanted, MEETS_TARGET, REPAIRS,
                       COUNT_CHANGES)
            with self.subTest(rows=rows):
                self.assertEqual(told[-3], [1])
                self.assertEqual(told[-2][0] + told[-1][0], told[-1][1])
                unnoticed = [one for one in changes_of(rows, palette)
                             if rings(changed(rows, one), *drops, horizon=horizon) == target]
                self.assertEqual(grouped(told[-2], 3), coded(unnoticed))

    def test_after_each_repair_the_board_meets_the_target(self):
        for rows, drops, palette, horizon in BOARDS:
            changes = changes_of(rows, palette)
            target = rings(changed(rows, changes[-1]), *drops, horizon=horizon)
            wanted = [want_ring(*pair) for pair in target]
            head = [load(plain(rows, *drops)), set_palette(palette), set_horizon(horizon)] + wanted
            found = grouped(run(*head, REPAIRS)[-1], 3)
            for index, (x, y, byte) in enumerate(found):
                told = run(*head, apply_repair(index), MEETS_TARGET, BOARD, CLEAR_TARGET)
                cells = [ord(sign) for row in changed(rows, (x, y, chr(byte))) for sign in row]
                with self.subTest(rows=rows, index=index):
                    self.assertEqual(told[-4:-2], [[byte, x, y], [1]])
                    self.assertEqual(told[-2:], [[len(rows[0]), len(rows)] + cells, [len(target)]])


class Repairs(unittest.TestCase):
    def check(self, text, palette, pairs, expected, horizon=40):
        with self.subTest(text=text, palette=palette, pairs=pairs):
            self.assertEqual(repairs_told(text, palette, pairs, horizon), coded(expected))

    def test_row_by_row_and_for_each_cell_in_the_order_of_the_palette(self):
        expected = [(0, 0, "U"), (0, 0, "."), (1, 0, "U"), (1, 0, "."), (2, 0, "U"), (2, 0, "."),
                    (0, 1, "U"), (0, 1, "."), (1, 1, "U"), (1, 1, "."), (2, 1, "U"), (2, 1, ".")]
        self.check(part("a", ["###", "###"]), "U.", [], expected)
        for palette in [".#^", "^#.", "#.^", "^.#"]:
            each = [sign for sign in palette if sign != "#"]
            cells = [(0, 0), (1, 0), (0, 1), (1, 1)]
            self.check(STONES, palette, [], [(x, y, sign) for x, y in cells for sign in each])

    def test_column_then_row_then_character(self):
        told = run(load(part("a", ["..", "!.", ".."]) + "drop 1 1"), set_palette("!"), want_ring(3, 0), REPAIRS)
        self.assertEqual(told[-1], [1, 1, 2, 33])

    def test_the_character_shown_is_left_out(self):
        for sign in CHARACTERS:
            self.check(part("a", [sign]), sign, [], [])
            self.check(part("a", [sign + "."]), sign, [], [(1, 0, sign)] if sign != "." else [])

    def test_the_initial_palette(self):
        told = run(load(STONES), REPAIRS)[-1]
        cells = [(0, 0), (1, 0), (0, 1), (1, 1)]
        self.assertEqual(grouped(told, 3), coded([(x, y, sign) for x, y in cells for sign in ".\\/"]))

    def test_a_palette_of_one_character(self):
        self.check(GOOD, "#", [(2, 0)], [(0, 2, "#")])
        self.check(GOOD, "#", [], [(0, 0, "#"), (0, 1, "#")])
        self.check(STONES, "#", [], [])

    def test_a_palette_of_twelve_characters(self):
        for palette in TWELVES:
            self.check(part("a", ["#"]), palette, [], [(0, 0, sign) for sign in palette if sign != "#"])
            self.check(part("a", ["!"]) + "drop 0 1", palette[::-1], [],
                       [(0, 0, sign) for sign in palette[::-1] if sign != "!"])

    def test_a_later_palette_replaces_the_first_one(self):
        told = run(load(GOOD), want_ring(2, 0), set_palette("#U"), REPAIRS, set_palette("U#"), REPAIRS)
        self.assertEqual(grouped(told[3], 3), coded([(0, 2, "#"), (0, 2, "U")]))
        self.assertEqual(grouped(told[5], 3), coded([(0, 2, "U"), (0, 2, "#")]))

    def test_an_empty_target(self):
        self.check(GOOD, "#!", [], [(0, 0, "#"), (0, 1, "#")])

    def test_pairs_added_in_another_order(self):
        text = plain(["..", "!."], "0 1", "1 1", "0 3")
        for pairs in [[(2, 0), (2, 1), (4, 2)], [(4, 2), (2, 1), (2, 0)], [(2, 1), (4, 2), (2, 0)]]:
            self.check(text, "!.", pairs, [(1, 1, "!")])

    def test_a_target_that_nothing_can_meet(self):
        self.check(GOOD, TWELVES[0], [(2, 1)], [])
        self.check(GOOD, TWELVES[0], [(2, 0), (2, 39)], [])
        self.check(STONES, TWELVES[0], [(1, 0)], [])

    def test_a_pair_behind_the_horizon(self):
        self.check(GOOD, "#", [(2, 0)], [(0, 2, "#")], horizon=2)
        self.check(GOOD, "#", [(2, 0)], [], horizon=1)
        self.check(GOOD, "#!", [], [(0, 0, "#"), (0, 1, "#"), (0, 2, "#"), (0, 2, "!")], horizon=1)

    def test_exactly_the_pairs(self):
        text = plain(["...", "!.."], "0 1", "1 1", "2 1")
        self.check(text, "!", [(2, 0), (2, 1)], [(1, 1, "!")])
        self.check(text, "!", [(2, 0), (2, 1), (2, 2)], [])
        self.check(text, "!", [(2, 1)], [])

    def test_the_board_is_not_changed(self):
        told = run(load(GOOD), want_ring(2, 0), REPAIRS, COUNT_CHANGES, IDLE_CELLS, REPAIRS, BOARD, RINGING, path(0))
        self.assertEqual(told[2], told[5])
        self.assertEqual(told[6:], [[1, 3, 46, 33, 46], [1, 2, 0], [3, 0, 0, 0, 1, 0, 2]])

    def test_the_target_the_horizon_and_the_palette_count_each_time(self):
        told = run(load(GOOD), set_palette("#"), REPAIRS, want_ring(2, 0), REPAIRS, set_horizon(1), REPAIRS,
                   CLEAR_TARGET, REPAIRS, set_palette("!"), REPAIRS, set_horizon(40), REPAIRS)
        self.assertEqual(told[2::2], [[2, 0, 0, 35, 0, 1, 35], [1, 0, 2, 35], [0],
                                      [3, 0, 0, 35, 0, 1, 35, 0, 2, 35], [1, 0, 2, 33], [0]])


class Counters(unittest.TestCase):
    # The counter leads to the left: the second marble rings the bell there.
    MIRRORED = part("c", [".2."]) + part("a", ["...", "!.."], "put c 0 0 mirror") + "drop 1 1 every 1 times 6"

    def test_a_mirrored_counter_is_shown_by_its_number(self):
        told = repairs_told(self.MIRRORED, "2", [(3, 1), (5, 3), (7, 5)])
        self.assertEqual(told, coded([(0, 0, "2"), (2, 0, "2"), (1, 1, "2"), (2, 1, "2")]))
        self.assertEqual(counts_told(self.MIRRORED, "2"), [1, 5])

    def test_a_changed_counter_leads_to_the_right(self):
        text = plain(["...", "..!"], "1 1 every 1 times 6")
        for number in range(2, 7):
            told = repairs_told(text, "23456789", [(one + 1, one - 1) for one in range(number, 7, number)])
            self.assertEqual(told, coded([(1, 0, str(number))]))

    def test_a_changed_counter_leads_to_the_right_in_the_place_of_a_mirrored_one(self):
        text = self.MIRRORED.replace("!..", "..!")
        self.assertEqual(repairs_told(text, "23", [(4, 2), (7, 5)]), coded([(1, 0, "3")]))
        text = self.MIRRORED.replace("!..", "!.!")
        self.assertEqual(repairs_told(text, "23", [(4, 2), (7, 5)]), coded([(1, 0, "3")]))

    def test_a_mirrored_counter_by_way_of_another_cell(self):
        calls = [load(self.MIRRORED.replace("!..", "!.!")), set_palette(".2"), apply_repair(0), BOARD, RINGING,
                 want_ring(3, 1), want_ring(5, 3), want_ring(7, 5), RINGING, apply_repair(0), BOARD, RINGING]
        told = run(*calls)
        self.assertEqual(told[2:5], [[46, 1, 0], [3, 2] + [46] * 3 + [33, 46, 33], [0]])
        self.assertEqual(told[9:], [[50, 1, 0], [3, 2, 46, 50, 46, 33, 46, 33], [3, 3, 1, 5, 3, 7, 5]])

    def test_mirrored_cells_are_left_out_as_they_are_shown(self):
        for sign, shown in zip("\\/><Yy", "/\\<>yY"):
            text = part("c", [sign]) + part("a", ["."], "put c 0 0 mirror")
            self.assertEqual(repairs_told(text, "\\/><Yy", []),
                             coded([(0, 0, one) for one in "\\/><Yy" if one != shown]))


class Letters(unittest.TestCase):
    GATE = part("g", ["A", "!"])

    def test_a_plate_is_linked_with_gates_of_the_own_letter_set(self):
        text = plain([".A", ".!"], "1 1", "0 3")
        self.assertEqual(repairs_told(text, "abA.", [(4, 0)]), coded([(0, 0, "a"), (0, 1, "a")]))
        self.assertEqual(repairs_told(text, "abA.", [(2, 0)]), coded([(1, 0, "a"), (1, 0, "b"), (1, 0, ".")]))

    def test_a_plate_is_not_linked_with_gates_of_copies(self):
        text = self.GATE + part("a", ["..", ".."], "put g 1 0") + "drop 1 1\ndrop 0 3"
        self.assertEqual(repairs_told(text, "abcdef", [(4, 0)]), [])
        text = self.GATE + part("a", ["...A", "...!"], "put g 1 0") + "drop 1 1\ndrop 3 1\ndrop 0 3"
        self.assertEqual(repairs_told(text, "a", [(4, 0)]), [])
        self.assertEqual(repairs_told(text, "a", [(4, 1)]), coded([(0, 0, "a"), (0, 1, "a")]))

    def test_a_gate_is_linked_with_plates_of_the_own_letter_set_alone(self):
        plate = part("p", ["a", "."])
        text = plate + part("a", ["..", ".!"], "put p 0 0") + "drop 1 1\ndrop 0 3"
        self.assertEqual(repairs_told(text, "A", [(4, 0)]), [])
        self.assertEqual(repairs_told(text, "A", []), coded([(1, 0, "A"), (1, 1, "A")]))
        text = plate + part("a", ["..a", ".!."], "put p 0 0") + "drop 1 1\ndrop 2 3"
        self.assertEqual(repairs_told(text, "A", [(4, 0)]), coded([(1, 0, "A")]))

    def test_the_letter_of_a_copy_is_left_out_as_it_is_shown(self):
        # In the place of the copy's gate the own letter set's one would let the marble go.
        text = self.GATE + part("a", ["a..", "..."], "put g 1 0") + "drop 1 1\ndrop 0 3"
        self.assertEqual(repairs_told(text, "A", [(4, 0)]), [])
        self.assertEqual(counts_told(text, "A"), [0, 5])
        self.assertEqual(repairs_told(text, "B", []), coded([(x, y, "B") for y in (0, 1) for x in (0, 1, 2)]))

    def test_a_gate_of_a_copy_by_way_of_another_letter(self):
        text = self.GATE + part("a", ["a..", "..."], "put g 1 0") + "drop 1 1\ndrop 0 3"
        told = run(load(text), set_palette("BA"), apply_repair(2), BOARD, want_ring(4, 0), REPAIRS, apply_repair(0),
                   BOARD, RINGING)
        self.assertEqual(told[2:4], [[66, 1, 0], [3, 2, 97, 66, 46, 46, 33, 46]])
        self.assertEqual(told[5:], [[1, 1, 0, 65], [65, 1, 0], [3, 2, 97, 65, 46, 46, 33, 46], [1, 4, 0]])

    def test_two_changed_cells_are_linked(self):
        told = run(load(plain(["...", "..#"], "2 1", "0 3")), set_palette("aA"), apply_repair(0), apply_repair(4),
                   set_palette("!"), want_ring(4, 0), REPAIRS, BOARD)
        self.assertEqual(told[2:4], [[97, 0, 0], [65, 2, 0]])
        self.assertEqual(told[6:], [[1, 2, 1, 33], [3, 2, 97, 46, 65, 46, 46, 35]])


class CountChanges(unittest.TestCase):
    def test_noticeable_ones_then_all(self):
        self.assertEqual(counts_told(GOOD, ".\\/"), [5, 7])
        self.assertEqual(counts_told(GOOD, "#"), [2, 3])
        self.assertEqual(counts_told(GOOD, "!"), [2, 2])

    def test_another_marble_or_another_tick_is_noticed(self):
        self.assertEqual(counts_told(plain(["..", ".!"], "0 1", "1 1"), "\\/"), [5, 8])
        self.assertEqual(counts_told(plain([">!", ".."], "0 1"), "\\"), [2, 4])

    def test_a_horizon_of_one(self):
        self.assertEqual(counts_told(GOOD, ".\\/", 1), [0, 7])
        self.assertEqual(counts_told(GOOD, "!", 1), [1, 2])
        self.assertEqual(counts_told(plain(["!."], "0 1", "1 1"), "!.", 1), [2, 2])

    def test_what_all_cells_show(self):
        self.assertEqual(counts_told(STONES, "#"), [0, 0])
        self.assertEqual(counts_told(plain(["!!"], "0 1"), "!"), [0, 0])

    def test_no_marbles(self):
        for palette in TWELVES:
            shown = palette.count("#")
            self.assertEqual(counts_told(STONES, palette), [0, 4 * (12 - shown)])

    def test_the_largest_board(self):
        text = part("a", ["." * 6] * 6) + "drop 5 1"
        self.assertEqual(counts_told(text, TWELVES[0]), [6, 396])
        self.assertEqual(counts_told(text, TWELVES[1]), [0, 432])

    def test_the_target_does_not_count(self):
        told = run(load(GOOD), COUNT_CHANGES, want_ring(2, 0), COUNT_CHANGES, want_ring(9, 9), COUNT_CHANGES)
        self.assertEqual(told[1::2], [[5, 7]] * 3)


class ApplyRepair(unittest.TestCase):
    HEAD = [load(GOOD), want_ring(2, 0), set_palette("U#/"), set_horizon(5)]

    def test_each_index(self):
        for index, sign in enumerate("U#/"):
            told = run(*self.HEAD, apply_repair(index), BOARD, MEETS_TARGET)
            self.assertEqual(told[4:], [[ord(sign), 0, 2], [1, 3, 46, 33, ord(sign)], [1]])

    def test_no_such_index(self):
        for index in [-1, -2, -3, -4, 3, 4, 9, BIG, -BIG]:
            with self.subTest(index=index):
                told = run(*self.HEAD, REPAIRS, apply_repair(index), BOARD, REPAIRS, MEETS_TARGET, COUNT_CHANGES,
                           path(0), CLEAR_TARGET)
                self.assertEqual(told[5:7], [[-3], [1, 3, 46, 33, 46]])
                self.assertEqual(told[7], told[4])
                self.assertEqual(told[8:], [[1], [6, 9], [3, 0, 0, 0, 1, 0, 2], [1]])

    def test_no_repairs(self):
        for index in [0, -1, 1, BIG, -BIG]:
            told = run(load(GOOD), want_ring(9, 0), apply_repair(index), BOARD)
            self.assertEqual(told[2:], [[-3], [1, 3, 46, 33, 46]])

    def test_character_then_column_then_row(self):
        told = run(load(part("a", ["..", "!.", ".."]) + "drop 1 1"), set_palette("!"), want_ring(3, 0), apply_repair(0))
        self.assertEqual(told[-1], [33, 1, 2])

    def test_the_target_the_horizon_and_the_palette_stay(self):
        told = run(*self.HEAD, apply_repair(1), want_ring(2, 0), REPAIRS, path(0), CLEAR_TARGET, CLEAR_TARGET)
        self.assertEqual(told[5:7], [[-4], [2, 0, 2, ord("U"), 0, 2, ord("/")]])
        self.assertEqual(told[7:], [[5, 0, 0, 0, 1, 0, 1, 0, 1, 0, 1], [1], [0]])

    def test_all_calls_go_by_the_changed_board(self):
        each = [RINGING, MEETS_TARGET, REPAIRS, IDLE_CELLS, COUNT_CHANGES, BOARD, path(0)]
        told = run(load(plain(["#.", "!!"], "0 1", "1 1")), set_palette(".\\"), want_ring(2, 1), want_ring(2, 0), *each,
                   apply_repair(0), *each)
        self.assertEqual(told[4:11], [[1, 2, 1], [0], [1, 0, 0, 46], [1, 0, 1], [5, 7], [2, 2, 35, 46, 33, 33], [0]])
        self.assertEqual(told[11], [46, 0, 0])
        self.assertEqual(told[12:], [[2, 2, 0, 2, 1], [1], [0], [0], [6, 6], [2, 2, 46, 46, 33, 33], [2, 0, 0, 0, 1]])

    def test_repairs_one_after_another(self):
        told = run(load(GOOD), want_ring(2, 0), apply_repair(0), BOARD, apply_repair(1), BOARD, apply_repair(0), BOARD,
                   CLEAR_TARGET, apply_repair(0), BOARD, MEETS_TARGET, apply_repair(0), BOARD, RINGING)
        boards = [[1, 3, 46, 33, 92], [1, 3, 46, 33, 47], [1, 3, 46, 33, 46], [1, 3, 92, 33, 46], [1, 3, 47, 33, 46]]
        self.assertEqual(told[3:8:2] + told[10:14:3], boards)
        self.assertEqual(told[2:7:2], [[92, 0, 2], [47, 0, 2], [46, 0, 2]])
        self.assertEqual(told[14], [0])

    def test_a_changed_flip_begins_anew(self):
        told = run(load(plain([".Y.", "!.#", "..."], "1 1 every 2 times 3")), set_palette("y."), want_ring(2, 0),
                   REPAIRS, apply_repair(0), RINGING, path(1), BOARD)
        self.assertEqual(told[3:], [[1, 1, 0, 121], [121, 1, 0], [1, 2, 0], [38] + [1, 0] * 38,
                                    [3, 3, 46, 121, 46, 33, 46, 35, 46, 46, 46]])
