"""The simulation, as far as the bells tell of it."""

import unittest

from tests.helper import RINGING, load, part, rings, run, set_horizon


def times(*ticks):
    """Rings of marble 0 at these ticks."""
    return [(tick, 0) for tick in ticks]


class RunCase(unittest.TestCase):
    def check(self, rows, drops, expected, horizon=40):
        with self.subTest(rows=rows, drops=drops):
            self.assertEqual(rings(rows, *drops, horizon=horizon), expected)


class Entering(RunCase):
    def test_tick_of_a_drop(self):
        for tick in [1, 2, 17, 40]:
            self.check(["!"], [f"0 {tick}"], times(tick))
        self.check(["!"], ["0 41"], [])
        self.check(["!"], ["0 999"], [])

    def test_tick_zero(self):
        self.check(["!"], ["0 0"], times(1))
        self.check([".", "!"], ["0 0"], times(2))
        self.check(["!"], ["0 0 every 1 times 3"], [(1, 0), (2, 1), (3, 2)])

    def test_entering_comes_after_the_moves(self):
        self.check([".", "!"], ["0 1"], times(2))
        self.check([".", "!"], ["0 1", "0 2"], [(2, 0), (3, 1)])

    def test_a_wall_at_the_top(self):
        self.check(["#", "!"], ["0 1"], [])
        self.check(["#!"], ["0 1", "1 2"], [(2, 1)])

    def test_waiting_while_the_top_cell_is_taken(self):
        self.check(["!"], ["0 1", "0 1", "0 1"], [(1, 0), (2, 1), (3, 2)])
        self.check(["!", "A"], ["0 1 every 1 times 5"], [(1, 0), (2, 1)])

    def test_others_enter_while_one_waits(self):
        self.check(["A!"], ["0 1", "0 2", "1 3"], [(3, 2)])

    def test_in_order_of_number(self):
        self.check(["!"], ["0 3", "0 1", "0 1", "0 1"], [(1, 1), (2, 2), (3, 0), (4, 3)])
        self.check(["!"], ["0 9", "0 1", "0 2"], [(1, 1), (2, 2), (9, 0)])

    def test_any_number_enters_a_bin(self):
        self.check(["U", "!"], ["0 1", "0 1", "0 1"], [])
        self.check(["U!"], ["0 1"] * 5 + ["1 2"], [(2, 5)])

    def test_a_plate_at_the_top_adds_a_permit(self):
        self.check(["aA", ".!"], ["1 1", "0 5"], times(6))

    def test_entering_a_gate_without_a_permit(self):
        self.check(["A", "!"], ["0 1"], [])


class Leaving(RunCase):
    def test_out_below_for_good(self):
        self.check(["!", "."], ["0 1"], times(1))
        self.check(["!", "."], ["0 1 every 1 times 4"], [(1, 0), (2, 1), (3, 2), (4, 3)])
        for row in ["\\.", "a.", "Y.", "2.", "9."]:
            self.check(["!.", row], ["0 1", "0 2", "0 3"], [(1, 0), (2, 1), (3, 2)])

    def test_not_beside_the_board(self):
        for cell in "<>/\\":
            self.check(["!", cell], ["0 1 every 1 times 4"], [(1, 0), (2, 1)])
            self.check(["!", cell, "."], ["0 1 every 1 times 4"], [(1, 0), (2, 1)])

    def test_a_row_does_not_go_on_in_the_next_one(self):
        self.check([".>", "!.", ".."], ["1 1"], [])
        self.check(["..", ".!", "<."], ["0 1"], [])
        self.check([".\\", "..", "!."], ["1 1"], [])
        self.check(["/.", ".!", ".."], ["0 1"], [])

    def test_a_flip_beside_the_board(self):
        self.check(["!", "Y"], ["0 1 every 1 times 4"], [(1, 0), (2, 1)])
        self.check(["!.", "Y.", "#."], ["0 1 every 1 times 4"], [(1, 0), (2, 1), (3, 2)])

    def test_not_above_the_board(self):
        self.check(["^", "!"], ["0 1"], [])
        self.check(["^!"], ["0 1", "0 2", "1 3"], [(3, 2)])


class Order(RunCase):
    def test_lowest_row_first(self):
        self.check([".", ".", "!"], ["0 1 every 1 times 3"], [(3, 0), (4, 1), (5, 2)])

    def test_lower_rows_come_before_columns_on_the_left(self):
        self.check([".", "!"], ["0 1", "0 2"], [(2, 0), (3, 1)])
        self.check(["\\.", ".!"], ["0 1 every 1 times 3"], [(2, 0), (3, 1), (4, 2)])

    def test_each_row_from_left_to_right(self):
        self.check([">>!"], ["1 1", "0 1"], [(2, 0), (4, 1)])
        self.check(["!<<"], ["1 1", "2 1"], [(2, 0), (3, 1)])

    def test_the_order_is_that_of_the_beginning_of_the_tick(self):
        self.check([">>>!"], ["0 1"], times(4))
        self.check(["!.", "^<", "^.", "^<"], ["1 1"], times(4, 6, 8, 10), horizon=11)
        self.check(["!.", "^.", "^.", "^<"], ["1 1"], times(8, 10), horizon=11)

    def test_two_marbles_that_want_the_same_cell(self):
        self.check(["\\./", ".!."], ["0 1", "2 1"], [(2, 0), (3, 1)])
        self.check(["\\./", ".!."], ["2 1", "0 1"], [(2, 1), (3, 0)])

    def test_the_lower_one_of_two_gets_the_cell(self):
        # Marble 1 is on the belt when marble 0 is above the bell.
        self.check(["..", "..", ">!"], ["1 2", "0 1"], [(4, 1), (5, 0)])

    def test_a_cell_that_is_left_in_the_same_tick_is_free(self):
        self.check([".", ".", "!", "."], ["0 1", "0 2", "0 3"], [(3, 0), (4, 1), (5, 2)])

    def test_a_cell_that_is_left_later_in_the_tick_is_not_free(self):
        self.check([">.", ".!"], ["1 1", "0 1"], [(2, 0), (4, 1)])


class Cells(RunCase):
    def test_air(self):
        self.check([".", "!"], ["0 1"], times(2))
        self.check([".", "#", "!"], ["0 1"], [])
        self.check(["!", ".", "#"], ["0 1 every 1 times 4"], [(1, 0), (2, 1)])

    def test_wall(self):
        self.check(["!", "#"], ["0 1 every 1 times 4"], times(1))
        self.check([">#!"], ["0 1"], [])

    def test_slopes(self):
        self.check(["\\..", ".!."], ["0 1"], times(2))
        self.check(["../", ".!."], ["2 1"], times(2))
        self.check(["\\.", "!."], ["0 1"], [])
        self.check(["./", ".!"], ["1 1"], [])
        self.check(["\\!", ".."], ["0 1"], [])

    def test_slopes_that_are_blocked(self):
        self.check(["!.", "\\.", ".#"], ["0 1 every 1 times 4"], [(1, 0), (2, 1)])
        self.check([".!", "./", "#."], ["1 1 every 1 times 4"], [(1, 0), (2, 1)])

    def test_belts(self):
        self.check([">!"], ["0 1"], times(2))
        self.check(["!<"], ["1 1"], times(2))
        self.check([">.", "!."], ["0 1"], [])
        self.check([".<", ".!"], ["1 1"], [])

    def test_belts_that_are_blocked(self):
        self.check(["!.", ">#"], ["0 1 every 1 times 4"], [(1, 0), (2, 1)])
        self.check([".!", "#<"], ["1 1 every 1 times 4"], [(1, 0), (2, 1)])
        self.check(["!.", "><"], ["0 1 every 1 times 4"], [(1, 0), (2, 1), (3, 2)])

    def test_lift(self):
        self.check(["!.", "^<"], ["1 1"], times(4, 6, 8), horizon=9)
        self.check(["^.", "!."], ["0 1"], [])

    def test_lifts_that_are_blocked(self):
        self.check(["#!", "^<"], ["1 1 every 1 times 5"], [(1, 0), (2, 1), (3, 2)])
        self.check(["!.", "^<"], ["1 1", "1 2"], times(4))

    def test_flip_to_the_right_first(self):
        self.check([".Y.", "..!"], ["1 1 every 1 times 5"], [(2, 0), (4, 2), (6, 4)])
        self.check([".Y.", "!.."], ["1 1 every 1 times 5"], [(3, 1), (5, 3)])
        self.check([".Y.", ".!."], ["1 1 every 1 times 5"], [])

    def test_flip_to_the_left_first(self):
        self.check([".y.", "!.."], ["1 1 every 1 times 5"], [(2, 0), (4, 2), (6, 4)])
        self.check([".y.", "..!"], ["1 1 every 1 times 5"], [(3, 1), (5, 3)])
        self.check([".y.", ".!."], ["1 1 every 1 times 5"], [])

    def test_a_flip_that_is_blocked_waits(self):
        self.check([".Y.", "!.#"], ["1 1", "1 3"], [])
        self.check([".y.", "#.!"], ["1 1", "1 3"], [])
        self.check([".Y.", "#.!"], ["1 1", "1 3", "1 5"], times(2))

    def test_a_flip_counts_only_marbles_that_left(self):
        # Marble 0 in the gate keeps marble 1 on the flip until marble 2 brings a permit.
        rows = ["aY.", "!.A", "..."]
        self.check(rows, ["2 1", "1 2", "0 6", "1 7"], [(7, 2), (8, 3)])

    def test_each_flip_counts_for_itself(self):
        self.check(["Y.Y.", ".!.!"], ["0 1", "2 2"], [(2, 0), (3, 1)])

    def test_counters(self):
        for number in range(2, 10):
            row = f"{number}."
            leaving = range(number - 1, 30, number)
            self.check([row, ".!"], ["0 1 every 1 times 30"], [(marble + 2, marble) for marble in leaving])
            others = [marble for marble in range(30) if marble not in leaving]
            self.check([row, "!."], ["0 1 every 1 times 30"], [(marble + 2, marble) for marble in others])

    def test_a_counter_that_is_blocked_waits(self):
        self.check(["2.", "#!"], ["0 1", "0 2"], [])
        self.check(["2.", "!#"], ["0 1", "0 2", "0 3"], times(2))
        self.check(["!", "2"], ["0 1 every 1 times 6"], [(1, 0), (2, 1), (3, 2)])

    def test_a_counter_counts_only_marbles_that_left(self):
        # Marble 0 in the gate keeps marble 1 on the counter until marble 2 brings a permit.
        rows = [".2a", ">A!", ".!."]
        self.check(rows, ["0 1", "1 3", "2 6", "1 7"], [(7, 0), (7, 2), (8, 3)])

    def test_counts_go_on_over_several_marbles(self):
        self.check(["3.", ".!"], ["0 1 every 4 times 7"], [(10, 2), (22, 5)])

    def test_bin(self):
        self.check([".", "U", "!"], ["0 1"], [])
        self.check(["!", "U"], ["0 1 every 1 times 4"], [(1, 0), (2, 1), (3, 2), (4, 3)])

    def test_a_bin_takes_several_marbles_in_a_tick(self):
        rows = ["!.!", "\\./", ".U."]
        self.check(rows, ["0 1", "2 1", "0 2", "2 2", "0 3", "2 3"],
                   [(1, 0), (1, 1), (2, 2), (2, 3), (3, 4), (3, 5)])

    def test_bell(self):
        self.check(["!", "!", "!"], ["0 1"], times(1, 2, 3))
        self.check(["!", "#"], ["0 1"], times(1))
        self.check(["!", "#", "!"], ["0 1", "0 1"], times(1))


class Drums(RunCase):
    def test_nobody_knocks(self):
        self.check([".", "O", "!"], ["0 1"], [])
        self.check(["O", "!"], ["0 1", "0 1"], [])

    def test_a_marble_above(self):
        self.check([".", "O", "!"], ["0 1", "0 2"], times(3))
        self.check([".", "O", "!"], ["0 1", "0 5"], times(6))
        self.check([".", "O", "!"], ["0 1 every 3 times 3"], [(5, 0), (8, 1)])

    def test_the_knock_counts_at_the_beginning_of_the_tick(self):
        self.check([".", ".", "O", "!"], ["0 1", "0 4"], times(6))

    def test_a_marble_beside(self):
        self.check([".O", ">O", ".!"], ["1 1", "0 9"], [(12, 1)])
        self.check(["..", ">O", ".!"], ["1 1", "0 4"], times(6))
        self.check(["..", "O<", "!."], ["0 1", "1 4"], times(6))
        self.check(["..", "<O", ".!"], ["1 1", "0 4"], [])

    def test_a_drum_above_a_drum(self):
        # The marble in the upper drum wants to move even at a tick at which nobody knocks for it.
        self.check([".", "O", "O", "!"], ["0 1", "0 2"], times(4))
        self.check([".", "O", "O", "!", "."], ["0 1", "0 2", "0 3"], [(4, 0), (5, 1)])

    def test_a_flip_knocks_on_the_side_to_which_it_leads(self):
        self.check([".Y.", "..O", "..!"], ["2 1", "1 5"], times(6))
        self.check([".y.", "..O", "..!"], ["2 1", "1 5"], [])
        self.check([".y.", "..O", "..!"], ["2 1", "1 5", "1 8"], times(9))

    def test_a_counter_knocks_where_it_leads(self):
        self.check(["2.", ".O", ".!"], ["1 1", "0 5"], [])
        self.check(["2.", ".O", ".!"], ["1 1", "0 5", "0 8"], times(9))
        self.check(["2.", "O.", "!."], ["0 1", "0 5", "0 9"], times(10))

    def test_a_drum_that_is_blocked(self):
        self.check(["!", "O", "#"], ["0 1 every 1 times 4"], [(1, 0), (2, 1)])

    def test_a_drum_at_the_bottom(self):
        self.check(["!", "O"], ["0 1 every 1 times 3"], [(1, 0), (2, 1), (3, 2)])

    def test_a_marble_in_a_gate_without_a_permit_does_not_knock(self):
        self.check(["Aa", "O.", "!."], ["0 1", "1 2", "0 3"], [])
        self.check(["Aa", "O.", "!."], ["0 1", "1 2", "0 3", "1 6"], times(7))

    def test_a_permit_of_the_same_tick_is_too_late_for_a_knock(self):
        # A marble comes onto the plate at tick 4, and another one at tick 9.
        self.check(["A.", "O.", "!.", ".a"], ["0 1", "1 1", "0 2", "1 6"], times(10))


class Gates(RunCase):
    def test_no_permit(self):
        self.check(["A", "!"], ["0 1"], [])
        for gate in "ABCDEF":
            self.check([gate, "!"], ["0 1"], [])

    def test_a_permit_of_the_same_tick(self):
        self.check(["A.", "!.", ".a"], ["0 1", "1 1"], times(3))
        self.check([".A", "a!"], ["1 1", "0 1"], times(2))

    def test_a_permit_for_the_tick_after(self):
        self.check(["..", "Aa", "!."], ["0 1", "1 2"], times(4))
        self.check(["A.", "!a"], ["0 1", "1 1"], times(3))

    def test_a_permit_is_kept(self):
        self.check(["aA", ".!"], ["0 1", "1 9"], [(10, 1)])

    def test_each_leaving_uses_one(self):
        self.check(["aA", ".!"], ["1 1", "1 2", "0 5"], times(6))
        self.check(["aA", ".!"], ["1 1", "1 2", "0 5", "0 9"], [(6, 0), (10, 1)])

    def test_permits_add_up(self):
        self.check(["aA", ".!"], ["0 1 every 1 times 3", "1 6 every 1 times 5"], [(7, 3), (8, 4), (9, 5)])

    def test_plates_of_one_letter_add_to_one_group(self):
        self.check(["aA", "a!"], ["0 1", "1 5", "1 6", "1 7"], [(6, 1), (7, 2)])

    def test_gates_of_one_letter_use_one_group(self):
        self.check(["aAA", ".!!"], ["1 1", "2 1", "0 5"], times(6))
        self.check(["aA.", "..A", ".!!"], ["1 1", "2 1", "0 5"], [(6, 1)])

    def test_other_letters_are_not_linked(self):
        self.check(["bA", ".!"], ["1 1", "0 2"], [])
        self.check(["abAB", "..!!"], ["2 1", "3 1", "1 2"], [(3, 1)])

    def test_a_gate_that_is_blocked_uses_no_permit(self):
        self.check(["aAA", ".#!"], ["1 1", "2 1", "0 5"], [(6, 1)])
        # Marble 0 in the lower gate keeps marble 2 in the upper one, that has a permit since tick 5, until tick 10.
        drops = ["1 1", "0 1", "1 2", "0 5", "2 9", "2 12", "1 11", "2 15"]
        self.check(["aAb", ".B.", ".!."], drops, [(10, 0), (13, 2)])

    def test_leaving_below_the_board_uses_one(self):
        self.check(["!a", "A."], ["0 1 every 1 times 4", "1 5"], [(1, 0), (2, 1), (6, 2)])

    def test_staying_on_a_plate_adds_one_only(self):
        self.check(["aA", "#!"], ["1 1", "1 2", "0 3"], times(4))


class Ringing(RunCase):
    def test_sorted_by_marble_within_a_tick(self):
        self.check(["..", "!!"], ["1 1", "0 1"], [(2, 0), (2, 1)])
        self.check(["!", "!", "!"], ["0 1", "0 2", "0 3"],
                   [(1, 0), (2, 0), (2, 1), (3, 0), (3, 1), (3, 2), (4, 1), (4, 2), (5, 2)])
        self.check(["!!!"], ["2 4", "1 4", "0 4", "0 3"], [(3, 3), (4, 0), (4, 1), (4, 2)])

    def test_within_the_horizon(self):
        text = part("a", ["!"]) + "drop 0 1 every 1 times 40"
        for horizon in [1, 2, 39, 40]:
            told = run(load(text), set_horizon(horizon), RINGING)[2]
            expected = [number for tick in range(1, horizon + 1) for number in (tick, tick - 1)]
            self.assertEqual(told, [horizon] + expected)

    def test_from_the_start_each_time(self):
        text = part("a", [".Y.", "..!"]) + "drop 1 1 every 1 times 5"
        told = run(load(text), set_horizon(4), RINGING, set_horizon(40), RINGING, set_horizon(1), RINGING, RINGING)
        self.assertEqual([told[at] for at in (2, 4, 6, 7)], [[2, 2, 0, 4, 2], [3, 2, 0, 4, 2, 6, 4], [0], [0]])

    def test_no_marbles(self):
        self.check(["!!", "!!"], [], [])

    def test_a_full_board(self):
        self.check(["!" * 6] * 6, [f"{column} 1" for column in range(6)],
                   [(tick, marble) for tick in range(1, 7) for marble in range(6)])
