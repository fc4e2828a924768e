"""Copies of parts in parts: places, mirroring, errors copy by copy, and letter sets."""

from chutes.cells import copied_cell, written_cell
from tests.helper import TextCase, part, rings_of

UNIT = part("u", ["."])
STONE = part("s", ["#"])
BELL = part("b", ["!"])


class PutCase(TextCase):
    def rings(self, text, expected):
        with self.subTest(text=text):
            self.assertEqual(rings_of(text), expected)


class PutErrors(PutCase):
    def test_not_well_formed(self):
        for tail in ["", "u", "u 0", "u 0 0 0", "u 0 0 mirror mirror", "u 0 0 times", "u 0 0 times 1",
                     "u 0 0 times 1 0", "u 0 0 times 1 0 0 0", "u 0 0 times 1 0 0 mirror", "u mirror 0 0", "0 0 u",
                     "u 0 0 Mirror", "u 0 0 mirror 1 0 0", "u 0 0 every 1 times 1", "u 0 0 mirror times", "u 0 mirror",
                     "u 0 0 1 0 0", "u 0 0 every 1 0 0", "u 0 0 mirrors 1 0 0", "u 0 0 mirror time 1 0 0"]:
            self.bad(UNIT + "part a 1 1\n:.\nput " + tail + "\nend", 6, 1)

    def test_number_of_copies(self):
        head = UNIT + "part a 12 1\n:............\n"
        self.good(head + "put u 0 0 times 1 1 0\nend", 12, 1, 0)
        self.good(head + "put u 0 0 times 12 1 0\nend", 12, 1, 0)
        self.bad(head + "put u 0 0 times 0 1 0\nend", 6, 1)
        self.bad(head + "put u 0 0 times 13 0 0\nend", 6, 1)

    def test_outside_a_part(self):
        self.bad("put a 0 0", 1, 1)
        self.bad(UNIT + "put u 0 0", 4, 1)
        self.bad(UNIT + "put x 0 0", 4, 1)
        self.bad(UNIT + "drop 0 1\nput u 0 0", 5, 1)

    def test_no_such_part(self):
        self.bad("part a 1 1\n:.\nput b 0 0", 3, 2)
        self.bad("part a 1 1\n:.\nput b 9 9", 3, 2)
        self.bad(UNIT + "part a 1 1\n:.\nput uu 0 0", 6, 2)

    def test_no_part_is_put_into_itself(self):
        self.bad("part a 1 1\n:.\nput a 0 0\nend", 3, 2)

    def test_within_the_part(self):
        head = part("c", ["..", "..", ".."]) + "part a 4 5\n" + ":....\n" * 5
        for x, y in [(0, 0), (2, 0), (0, 2), (2, 2), (1, 1)]:
            self.good(head + f"put c {x} {y}\nend", 4, 5, 0)
            self.good(head + f"put c {x} {y} mirror\nend", 4, 5, 0)
        for x, y in [(-1, 0), (0, -1), (3, 0), (0, 3), (4, 5), (-2, -3), (2, -1), (3, 2)]:
            self.bad(head + f"put c {x} {y}\nend", 12, 3)
            self.bad(head + f"put c {x} {y} mirror\nend", 12, 3)

    def test_a_copy_of_air_must_lie_within_the_part_too(self):
        self.bad(part("c", ["#."]) + "part a 1 1\n:.\nput c 0 0\nend", 6, 3)

    def test_a_larger_part(self):
        self.bad(part("c", [".."]) + "part a 1 2\n:.\n:.\nput c 0 0", 7, 3)
        self.bad(part("c", [".", "."]) + "part a 2 1\n:..\nput c 0 0", 7, 3)

    def test_not_on_air(self):
        self.bad(STONE + "part a 2 1\n:.#\nput s 1 0\nend", 6, 4)
        self.good(STONE + "part a 2 1\n:.#\nput s 0 0\nend", 2, 1, 0)
        self.bad(STONE + "part a 2 1\n:..\nput s 1 0\nput s 1 0\nend", 7, 4)

    def test_equal_cells_are_not_air_either(self):
        self.bad(part("c", ["a"]) + "part d 1 1\n:a\nput c 0 0", 6, 4)

    def test_air_may_lie_on_anything(self):
        self.good(part("c", [".#"]) + "part a 2 1\n:#.\nput c 0 0\nend", 2, 1, 0)
        self.bad(part("c", [".#"]) + "part a 2 1\n:#.\nput c 0 0 mirror\nend", 6, 4)
        self.good(UNIT + "part a 1 1\n:#\nput u 0 0 times 12 0 0\nend", 1, 1, 0)

    def test_the_order_of_the_conditions(self):
        self.bad(STONE + "part a 2 1\n:##\nput x 5 5\nend", 6, 2)
        self.bad(part("c", ["##"]) + "part a 2 1\n:##\nput c 1 0\nend", 6, 3)
        self.bad("part a 1 2\n:.\nput x 0 0", 3, 1)

    def test_each_copy_is_made_before_the_next_is_checked(self):
        head = STONE + "part a 3 1\n:...\n"
        self.bad(head + "put s 0 0 times 2 0 0\nend", 6, 4)
        self.good(head + "put s 0 0 times 3 1 0\nend", 3, 1, 0)
        self.bad(head + "put s 0 0 times 4 1 0\nend", 6, 3)
        self.bad(head + "put s 0 0 times 2 -1 0\nend", 6, 3)
        self.bad(head + "put s -1 0 times 2 1 0\nend", 6, 3)

    def test_the_first_copy_with_an_error_is_told(self):
        self.bad(STONE + "part a 3 1\n:..#\nput s 1 0 times 3 1 0\nend", 6, 4)
        self.bad(STONE + "part a 3 1\n:..#\nput s 0 0 times 3 -1 0\nend", 6, 3)
        self.bad(part("c", ["##"]) + "part a 4 1\n:....\nput c 0 0 times 4 1 0\nend", 6, 4)
        self.bad(part("c", ["##"]) + "part a 4 1\n:....\nput c 0 0 times 4 2 0\nend", 6, 3)


class LetterSetLimit(PutCase):
    # 61 letter sets: the part's own one and 60 copies.
    FULL = "put u 0 0 times 12 0 0\n" * 5

    def test_most_letter_sets(self):
        head = UNIT + "part a 1 1\n:.\n" + self.FULL
        self.good(head + "put u 0 0 times 3 0 0\nend", 1, 1, 0)
        self.bad(head + "put u 0 0 times 4 0 0\nend", 11, 5)
        self.bad(head + "put u 0 0 times 3 0 0\nput u 0 0\nend", 12, 5)

    def test_copies_in_copies_count(self):
        four = part("c", ["."], "put u 0 0 times 3 0 0")
        head = UNIT + four + "part a 1 1\n:.\nput c 0 0 times 12 0 0\nput c 0 0 times 3 0 0\n"
        self.good(head + "put u 0 0 times 3 0 0\nend", 1, 1, 0)
        self.bad(head + "put u 0 0 times 4 0 0\nend", 12, 5)
        self.bad(head + "put c 0 0\nend", 12, 5)

    def test_each_part_counts_its_own(self):
        full = part("c", ["."], self.FULL + "put u 0 0 times 3 0 0")
        self.good(UNIT + full + part("d", ["."], self.FULL), 1, 1, 0)
        self.bad(UNIT + full + "part d 1 1\n:.\nput c 0 0", 15, 5)
        self.good(UNIT + full + part("d", ["."]), 1, 1, 0)

    def test_order_within_a_copy(self):
        head = UNIT + STONE + "part a 3 1\n:...\n" + self.FULL
        self.bad(head + "put u 0 0 times 4 1 0\nend", 14, 3)
        self.bad(head + "put s 0 0 times 4 1 0\nend", 14, 3)
        head = UNIT + STONE + "part a 4 1\n:....\n" + self.FULL
        self.bad(head + "put u 0 0 times 4 1 0\nend", 14, 5)
        self.bad(head + "put u 0 0 times 12 1 0\nend", 14, 5)
        head = UNIT + STONE + "part a 4 1\n:...#\n" + self.FULL
        self.bad(head + "put s 0 0 times 4 1 0\nend", 14, 4)


class Places(PutCase):
    def test_upper_left_cell(self):
        text = BELL + part("a", ["...", "...", "..."], "put b 1 2") + "drop 0 1\ndrop 1 1\ndrop 2 1"
        self.rings(text, [(3, 1)])
        text = BELL + part("a", ["...", "...", "..."], "put b 2 0") + "drop 0 1\ndrop 1 1\ndrop 2 1"
        self.rings(text, [(1, 2)])

    def test_a_larger_copy(self):
        shape = part("c", ["!.", ".!", "!!"])
        drops = "drop 0 1\ndrop 1 1\ndrop 2 1"
        self.rings(shape + part("a", ["..."] * 4, "put c 1 1") + drops, [(2, 1), (3, 2), (4, 1), (4, 2)])
        self.rings(shape + part("a", ["..."] * 4, "put c 1 1 mirror") + drops, [(2, 2), (3, 1), (4, 1), (4, 2)])

    def test_shifted_copies(self):
        drops = "drop 0 1\ndrop 1 1\ndrop 2 1"
        self.rings(BELL + part("a", ["..."] * 3, "put b 0 0 times 3 1 1") + drops, [(1, 0), (2, 1), (3, 2)])
        self.rings(BELL + part("a", ["..."] * 3, "put b 2 0 times 3 -1 1") + drops, [(1, 2), (2, 1), (3, 0)])
        self.rings(BELL + part("a", ["..."] * 3, "put b 1 2 times 2 0 -2") + drops, [(1, 1), (3, 1)])

    def test_air_of_a_copy_leaves_what_is_there(self):
        text = part("c", [".#", "#."]) + part("a", ["!.", ".!"], "put c 0 0") + "drop 0 1\ndrop 1 1"
        self.rings(text, [(1, 0)])

    def test_copies_are_of_their_own(self):
        text = BELL + part("c", ["...", "..."], "put b 0 1") + part("d", ["...", "..."], "put c 0 0", "put b 2 0")
        drops = "drop 0 1\ndrop 1 1\ndrop 2 1"
        self.rings(text + drops, [(1, 2), (2, 0)])
        self.rings(text + part("e", ["...", "..."], "put c 0 0 mirror") + drops, [(2, 2)])

    def test_a_copy_of_a_copy(self):
        text = BELL + part("c", ["..", ".."], "put b 0 1") + part("d", ["..", ".."], "put c 0 0 mirror")
        drops = "drop 0 1\ndrop 1 1\ndrop 2 1"
        self.rings(text + part("e", ["...", "..."], "put d 0 0") + drops, [(2, 1)])
        self.rings(text + part("e", ["...", "..."], "put d 1 0 mirror") + drops, [(2, 1)])


class Mirror(PutCase):
    DROPS = "drop 1 1 every 3 times 6"

    def check(self, sign, bell_right, bell_below, bell_left):
        """Marbles that ring the one bell of three below a cell; none of the copies is mirrored, or one, or two."""
        expected = {">": bell_right, ".": bell_below, "<": bell_left}
        for puts, order in [(["put c 0 0"], "<.>"), (["put c 0 0 mirror"], ">.<")]:
            for place, side in enumerate(order):
                rows = ["." * place + "!" + "." * (2 - place)]
                board = part("a", ["..."] + rows, *puts) + self.DROPS
                self.rings(part("c", [f".{sign}."]) + board, [(3 * marble + 2, marble) for marble in expected[side]])
        for place, side in enumerate("<.>"):
            rows = ["." * place + "!" + "." * (2 - place)]
            board = part("d", ["..."], "put c 0 0 mirror") + part("a", ["..."] + rows, "put d 0 0 mirror")
            text = part("c", [f".{sign}."]) + board + self.DROPS
            self.rings(text, [(3 * marble + 2, marble) for marble in expected[side]])

    def test_characters_shown(self):
        for sign, mirrored in [("\\/", "/\\"), ("<>", "><"), ("Yy", "yY"), ("^.#U!OabcdefABCDEF23456789",) * 2]:
            cells = [written_cell(one) for one in sign]
            self.assertEqual("".join(copied_cell(cell, True, 1).sign for cell in cells), mirrored)
            self.assertEqual("".join(copied_cell(cell, False, 1).sign for cell in cells), sign)

    def test_slopes(self):
        self.check("\\", [0, 1, 2, 3, 4, 5], [], [])
        self.check("/", [], [], [0, 1, 2, 3, 4, 5])

    def test_flips(self):
        self.check("Y", [0, 2, 4], [], [1, 3, 5])
        self.check("y", [1, 3, 5], [], [0, 2, 4])

    def test_counters(self):
        self.check("2", [1, 3, 5], [0, 2, 4], [])
        self.check("3", [2, 5], [0, 1, 3, 4], [])
        self.check("6", [5], [0, 1, 2, 3, 4], [])
        self.check("7", [], [0, 1, 2, 3, 4, 5], [])

    def test_cells_without_a_direction(self):
        self.check(".", [], [0, 1, 2, 3, 4, 5], [])
        self.check("a", [], [0, 1, 2, 3, 4, 5], [])
        for sign in "#UOA":
            self.check(sign, [], [], [])

    def test_belts(self):
        for sign, put, expected in [(">", "put c 0 0", [(2, 1)]), (">", "put c 0 0 mirror", [(2, 0)]),
                                    ("<", "put c 0 0", [(2, 0)]), ("<", "put c 0 0 mirror", [(2, 1)])]:
            for bell in [0, 2]:
                row = "!.." if bell == 0 else "..!"
                text = part("c", [f".{sign}."]) + part("a", [row], put) + "drop 1 1"
                going_right = expected == [(2, 1)]
                self.rings(text, [(2, 0)] if going_right == (bell == 2) else [])

    def test_lift_and_bell(self):
        text = part("c", ["!.", "^<"]) + part("a", ["..", ".."], "put c 0 0 mirror") + "drop 0 1"
        self.assertEqual(rings_of(text, 9), [(4, 0), (6, 0), (8, 0)])

    def test_shifted_copies_are_all_mirrored(self):
        text = part("c", ["\\"]) + part("a", ["....", "!!!!"], "put c 1 0 mirror times 2 2 0") + "drop 1 1\ndrop 3 2"
        self.rings(text, [(2, 0), (3, 1)])
        text = part("c", ["\\"]) + part("a", ["....", "!.!."], "put c 1 0 mirror times 2 2 0") + "drop 1 1\ndrop 3 2"
        self.rings(text, [(2, 0), (3, 1)])


class LetterSets(PutCase):
    PAIR = part("c", ["aA", ".!"])
    GATE = part("g", ["A", "!"])
    PLATE = part("p", ["a", "."])

    def test_within_a_part(self):
        self.rings(self.PAIR + "drop 1 1\ndrop 0 3", [(4, 0)])

    def test_within_a_copy(self):
        text = self.PAIR + part("a", ["..", ".."], "put c 0 0")
        self.rings(text + "drop 1 1\ndrop 0 3", [(4, 0)])
        text = self.PAIR + part("a", ["..", ".."], "put c 0 0 mirror")
        self.rings(text + "drop 0 1\ndrop 1 3", [(4, 0)])

    def test_copies_of_one_put_are_not_linked(self):
        text = self.PAIR + part("a", ["....", "...."], "put c 0 0 times 2 2 0")
        self.rings(text + "drop 1 1\ndrop 3 1\ndrop 0 3", [(4, 0)])
        self.rings(text + "drop 1 1\ndrop 3 1\ndrop 2 3", [(4, 1)])

    def test_copies_of_two_puts_are_not_linked(self):
        text = self.PAIR + part("a", ["....", "...."], "put c 0 0", "put c 2 0 mirror")
        self.rings(text + "drop 1 1\ndrop 2 1\ndrop 0 3", [(4, 0)])
        self.rings(text + "drop 1 1\ndrop 2 1\ndrop 3 3", [(4, 1)])

    def test_a_copy_and_the_part_itself_are_not_linked(self):
        self.rings(self.GATE + part("a", ["a..", "..."], "put g 1 0") + "drop 1 1\ndrop 0 3", [])
        self.rings(self.PLATE + part("a", ["A..", "!.."], "put p 1 0") + "drop 0 1\ndrop 1 3", [])
        self.rings(self.GATE + part("a", ["aA.", ".!."], "put g 2 0") + "drop 1 1\ndrop 2 1\ndrop 0 3", [(4, 0)])

    def test_copies_of_different_parts_are_not_linked(self):
        text = self.GATE + self.PLATE + part("a", ["..", ".."], "put p 0 0", "put g 1 0")
        self.rings(text + "drop 1 1\ndrop 0 3", [])

    def test_copies_in_copies(self):
        text = self.PAIR + part("d", ["..", ".."], "put c 0 0") + part("a", ["...."] * 2, "put d 0 0 times 2 2 0")
        self.rings(text + "drop 1 1\ndrop 3 1\ndrop 0 3", [(4, 0)])
        self.rings(text + "drop 1 1\ndrop 3 1\ndrop 2 3", [(4, 1)])

    def test_no_set_of_a_copy_is_one_of_another_copy(self):
        # Each copy of d brings two letter sets: one with its plate, one with its gate.
        text = self.GATE + part("d", ["a.", ".."], "put g 1 0")
        text += part("a", ["......"] * 2, "put d 0 0 times 3 2 0")
        for gate in [1, 3, 5]:
            for plate in [0, 2, 4]:
                self.rings(text + f"drop {gate} 1\ndrop {plate} 3", [])

    def test_no_set_of_a_copy_is_that_of_the_part_itself(self):
        text = self.GATE + part("d", ["A.", "!."], "put g 1 0")
        text += part("a", ["a.....", "......"], "put d 1 0 times 2 2 0")
        for gate in [1, 2, 3, 4]:
            self.rings(text + f"drop {gate} 1\ndrop 0 3", [])

    def test_own_letters_of_a_copied_part_stay_linked(self):
        text = self.GATE + part("d", ["aA.", ".!."], "put g 2 0") + part("a", ["...", "..."], "put d 0 0")
        self.rings(text + "drop 1 1\ndrop 2 1\ndrop 0 3", [(4, 0)])

    def test_all_letters_of_a_set(self):
        for plate in "abcdef":
            for gate in "ABCDEF":
                text = part("c", [plate + gate, ".!"]) + "drop 1 1\ndrop 0 3"
                self.rings(text, [(4, 0)] if plate.upper() == gate else [])
