"""Program texts: their lines and words, and the errors in them."""

from tests.helper import BIG, RINGING, TextCase, call, load, part, rings, rings_of, run

UNIT = "part u 1 1\n:.\nend\n"
STONE = "part s 1 1\n:#\nend\n"


class Bytes(TextCase):
    def test_wrong_bytes(self):
        for number in [0, 9, 11, 13, 31, 127, 128, 255, 256 + 46, -1, -46, -10, BIG, -BIG]:
            with self.subTest(number=number):
                self.assertEqual(run(call(1, number)), [[-2]])
                self.assertEqual(run(call(1, *[ord(sign) for sign in UNIT + ";"], number)), [[-2]])

    def test_every_byte_may_stand_in_a_remark(self):
        self.good(";" + "".join(chr(number) for number in range(32, 127)) + "\n" + UNIT, 1, 1, 0)

    def test_every_other_byte_is_refused_in_a_row(self):
        for number in range(32, 127):
            if chr(number) in ".#\\/><^YyU!OabcdefABCDEF23456789":
                self.good(f"part a 1 1\n:{chr(number)}\nend", 1, 1, 0)
            else:
                self.bad(f"part a 1 1\n:{chr(number)}\nend", 2, 1)

    def test_length(self):
        self.good(UNIT + ";" * (4000 - len(UNIT)), 1, 1, 0)
        self.good("\n" * (4000 - len(UNIT)) + UNIT, 1, 1, 0)
        self.assertEqual(run(load(UNIT + ";" * (4001 - len(UNIT)))), [[-2]])
        self.assertEqual(run(load("\n" * 4100)), [[-2]])
        self.bad("\n" * 4000, 4002, 6)

    def test_ahead_of_errors_in_the_text(self):
        self.assertEqual(run(load("nonsense\n\t")), [[-2]])
        self.assertEqual(run(load("nonsense\n" + "x" * 4000)), [[-2]])
        self.assertEqual(run(load("drop 0 1\n" + part("a", ["." * 24] * 24) + "\r")), [[-2]])


class BoardSize(TextCase):
    def test_most_cells(self):
        self.good(part("a", ["." * 6] * 6), 6, 6, 0)
        self.good(part("a", ["." * 12] * 3), 12, 3, 0)
        self.good(part("a", [".."] * 18), 2, 18, 0)
        self.good(part("a", ["." * 24]), 24, 1, 0)
        self.good(part("a", ["."] * 24), 1, 24, 0)
        for rows in [["." * 19] * 2, [".."] * 19, ["." * 24] * 24, ["." * 8] * 5, ["." * 5] * 8]:
            self.assertEqual(run(load(part("a", rows))), [[-4]])

    def test_only_the_last_part_counts(self):
        self.good(part("a", ["." * 24] * 24) + part("b", ["."] * 2) + "drop 0 1", 1, 2, 1)
        self.assertEqual(run(load(UNIT + part("b", ["." * 24] * 24))), [[-4]])

    def test_behind_errors_in_the_text(self):
        large = part("a", ["." * 20] * 20)
        self.bad(large + "drop 20 1", 23, 3)
        self.bad(large + "nonsense", 23, 1)
        self.bad(large + "part b 1 1", 24, 6)
        self.assertEqual(run(load(large + "drop 19 1")), [[-4]])


class Lines(TextCase):
    def test_ignored_lines(self):
        self.good("\n   \n;\n; part a 1 1\n" + UNIT + "\n;end\n ", 1, 1, 0)

    def test_ignored_lines_inside_a_part(self):
        self.good("part a 1 2\n\n:.\n;:.\n  \n:#\n; put\n\nend\n;", 1, 2, 0)

    def test_ignored_lines_are_counted(self):
        self.bad("\n;\n  \n" + UNIT + "nonsense", 7, 1)
        self.bad("part a 1 2\n\n;\n:x", 4, 1)

    def test_a_remark_begins_its_line(self):
        self.bad(" ;\n" + UNIT, 1, 1)
        self.bad(UNIT + "drop 0 1 ; one", 4, 1)
        self.bad("part a 2 1\n:.;\nend", 2, 1)

    def test_spaces_around_words(self):
        text = "  part   a  2   1 \n:..\n end  \n part b 2 1\n:..\n   put  a   0 0   mirror  times 1  0 0 \nend\n"
        self.good(text + "  drop  1   1    every 2   times   3  ", 2, 1, 3)

    def test_unknown_words(self):
        for line in ["parts a 1 1", "PART a 1 1", "Part a 1 1", "parta 1 1", "x", "0", "-", ".", "mirror", "times",
                     "every 1 times 1", "%", "?"]:
            self.bad(line, 1, 1)
            self.bad(UNIT + line, 4, 1)
            self.bad("part a 1 1\n:.\n" + line, 3, 1)

    def test_the_first_line_with_an_error_is_reported(self):
        self.bad("part a 1 1\n:.\nend\npart a 1 1\nnonsense", 4, 2)
        self.bad("part a 1 1\n:.\nend\ndrop 3 1\npart a 1 1\n", 4, 3)
        self.bad("drop 0 1\nnonsense", 1, 6)
        self.bad("nonsense\ndrop 0 1", 1, 1)

    def test_newline_as_the_only_sign_between_lines(self):
        self.bad("part a 1 1 end", 1, 1)


class Numbers(TextCase):
    def test_not_a_number(self):
        for word in ["00", "01", "001", "-1", "-0", "+1", "1.", "1a", "a", "0x1", "1000", "0000", "-", "--1", "1-"]:
            self.bad(f"part a {word} 1", 1, 1)
            self.bad(f"part a 1 {word}", 1, 1)
            self.bad(UNIT + f"drop {word} 1", 4, 1)
            self.bad(UNIT + f"drop 0 {word}", 4, 1)
            self.bad(UNIT + f"drop 0 1 every {word} times 1", 4, 1)
            self.bad(UNIT + f"drop 0 1 every 1 times {word}", 4, 1)
            self.bad(UNIT + f"part b 1 1\n:.\nput u 0 0 times {word} 0 0", 6, 1)

    def test_not_a_signed_number(self):
        for word in ["00", "01", "-00", "-01", "+1", "--1", "-", "1000", "-1000", "1-", "-a", "x", "-0-", "- 1"]:
            for line in [f"put u {word} 0", f"put u 0 {word}", f"put u 0 0 times 1 {word} 0",
                         f"put u 0 0 times 1 0 {word}", f"put u 0 0 mirror times 1 0 {word}"]:
                self.bad(UNIT + f"part b 1 1\n:.\n{line}\nend", 6, 1)

    def test_signed_numbers(self):
        head = UNIT + "part b 3 3\n:...\n:...\n:...\n"
        self.good(head + "put u -0 -0\nend", 3, 3, 0)
        self.good(head + "put u 2 2 times 3 -1 -1\nend", 3, 3, 0)
        self.good(head + "put u 2 0 times 3 -1 1\nend", 3, 3, 0)
        self.good(head + "put u 0 0 times 1 -999 999\nend", 3, 3, 0)
        for line in ["put u -1 0", "put u 0 -1", "put u 999 0", "put u 0 -999", "put u -10 10"]:
            self.bad(head + line + "\nend", 8, 3)

    def test_numbers_of_three_digits(self):
        self.good(UNIT + "drop 0 999 every 999 times 40", 1, 1, 40)
        self.good(UNIT + "drop 0 100", 1, 1, 1)
        self.bad(UNIT + "drop 999 0", 4, 3)
        self.bad(UNIT + "drop 100 0", 4, 3)


class Names(TextCase):
    def test_good_names(self):
        for name in ["a", "z", "abcdefgh", "part", "put", "end", "drop", "mirror", "times", "every"]:
            self.good(part(name, ["."]) + f"part other 1 1\n:.\nput {name} 0 0\nend", 1, 1, 0)

    def test_bad_names(self):
        for name in ["abcdefghi", "A", "aB", "a1", "1", "a-b", "a_b", "-", ".", ":", ";", "a;"]:
            self.bad(f"part {name} 1 1", 1, 1)
            self.bad(UNIT + f"part b 1 1\n:.\nput {name} 0 0", 6, 1)


class PartLines(TextCase):
    def test_not_well_formed(self):
        for line in ["part", "part a", "part a 1", "part a 1 1 1", "part 1 1", "part a 1 1 end", "part a b 1 1"]:
            self.bad(line + "\n:.\nend", 1, 1)

    def test_sizes(self):
        for size in [0, 25, 100, 999]:
            self.bad(f"part a {size} 1", 1, 1)
            self.bad(f"part a 1 {size}", 1, 1)
        for size in [1, 2, 23, 24]:
            self.good(f"part a {size} 1\n:{'.' * size}\nend", size, 1, 0)
            self.good(f"part a 1 {size}\n" + ":.\n" * size + "end", 1, size, 0)

    def test_inside_a_part(self):
        self.bad("part a 1 1\npart b 1 1", 2, 1)
        self.bad("part a 1 1\n:.\npart b 1 1", 3, 1)
        self.bad("part a 1 1\n:.\npart a 1 1", 3, 1)
        self.bad(UNIT + "part a 1 1\n:.\npart u 1 1", 6, 1)

    def test_after_a_drop(self):
        self.bad(UNIT + "drop 0 1\npart b 1 1", 5, 1)
        self.bad(UNIT + "drop 0 1\npart u 1 1", 5, 1)

    def test_name_already_used(self):
        self.bad(UNIT + "part u 1 1", 4, 2)
        self.bad(UNIT + STONE + "part u 2 2", 7, 2)

    def test_names_may_be_parts_of_each_other(self):
        self.good(part("a", ["."]) + part("aa", ["."]) + part("aaa", [".."]), 2, 1, 0)

    def test_thirteenth_part(self):
        twelve = "".join(part("p" + "x" * number if number < 7 else "q" * (number - 6), ["."]) for number in range(12))
        self.good(twelve, 1, 1, 0)
        self.good(twelve + "drop 0 1", 1, 1, 1)
        self.bad(twelve + "part last 1 1", 37, 5)
        self.bad(twelve + "part p 1 1", 37, 2)
        self.bad(twelve + "part last 1 0", 37, 1)
        self.bad(twelve + "drop 0 1\npart last 1 1", 38, 1)


class Rows(TextCase):
    def test_width(self):
        for row in [":", ":.", ":...", ":.. ", ": ..", ":. .", ":  ", "::."]:
            self.bad(f"part a 2 1\n{row}\nend", 2, 1)

    def test_begin_of_a_row(self):
        for row in [" :..", "..", ".:.", " ..", "/..", ";:.."]:
            self.bad(f"part a 2 1\n{row}\nend", 3 if row.startswith(";") else 2, 1)

    def test_characters(self):
        for row in [":.g", ":G.", ":01", ":.0", ":.1", ":.u", ":.o", ":x.", ":.;", ":.:", ":.|", ":.V", ":.v", ":.%"]:
            self.bad(f"part a 2 1\n{row}\nend", 2, 1)

    def test_too_many_rows(self):
        self.bad("part a 1 1\n:.\n:.\nend", 3, 1)
        self.bad("part a 1 2\n:.\n:.\n:.\nend", 4, 1)
        self.bad(UNIT + "part a 1 1\n:.\nput u 0 0\n:.", 7, 1)

    def test_missing_rows(self):
        self.bad("part a 1 2\n:.\nend", 3, 1)
        self.bad("part a 1 1\nend", 2, 1)
        self.bad(UNIT + "part a 1 2\n:.\nput u 0 0", 6, 1)
        self.bad(UNIT + "part a 1 2\nput u 0 0\n:.\n:.\nend", 5, 1)
        self.bad(UNIT + "part a 1 2\n:.\nput x 9 9", 6, 1)

    def test_outside_a_part(self):
        self.bad(":.", 1, 1)
        self.bad(":", 1, 1)
        self.bad(UNIT + ":.", 4, 1)
        self.bad(UNIT + "drop 0 1\n:.", 5, 1)

    def test_rows_go_from_top_to_bottom(self):
        self.assertEqual(rings(["#!", "..", "!#"], "0 1", "1 1"), [(1, 1)])
        self.assertEqual(rings([".", ".", "!", "."], "0 1"), [(3, 0)])


class EndLines(TextCase):
    def test_not_well_formed(self):
        self.bad("part a 1 1\n:.\nend a", 3, 1)
        self.bad("part a 1 1\n:.\nend end", 3, 1)

    def test_outside_a_part(self):
        self.bad("end", 1, 1)
        self.bad(UNIT + "end", 4, 1)
        self.bad(UNIT + "drop 0 1\nend", 5, 1)


class DropLines(TextCase):
    def test_not_well_formed(self):
        for tail in ["", "0", "0 1 every", "0 1 every 1", "0 1 every 1 times", "0 1 every 1 times 1 1", "0 1 times 1",
                     "0 1 1", "0 1 every 1 1", "0 1 times 1 every 1", "0 1 Every 1 times 1", "0 1 every 1 time 1",
                     "0 1 mirror", "0 1 every 1 every 1", "0 1 times 1 times 1", "every 1 times 1"]:
            self.bad(UNIT + "drop " + tail, 4, 1)
            self.bad("drop " + tail, 1, 1)

    def test_zero(self):
        self.good(UNIT + "drop 0 0", 1, 1, 1)
        self.good(UNIT + "drop 0 0 every 1 times 1", 1, 1, 1)
        self.bad(UNIT + "drop 0 1 every 0 times 1", 4, 1)
        self.bad(UNIT + "drop 0 1 every 1 times 0", 4, 1)

    def test_inside_a_part(self):
        self.bad("part a 1 1\ndrop 0 1", 2, 1)
        self.bad("part a 1 1\n:.\ndrop 0 1\nend", 3, 1)
        self.bad(UNIT + "part a 1 1\n:.\ndrop 9 1\nend", 6, 1)

    def test_no_such_column(self):
        text = part("a", ["..."])
        self.good(text + "drop 2 1", 3, 1, 1)
        self.bad(text + "drop 3 1", 4, 3)
        self.bad(text + "drop 999 1 every 1 times 41", 4, 3)
        self.bad(text + UNIT + "drop 1 1", 7, 3)

    def test_columns_are_numbers_without_a_sign(self):
        self.bad(UNIT + "drop -1 1", 4, 1)
        self.bad(UNIT + "drop -0 1", 4, 1)

    def test_most_marbles(self):
        self.good(UNIT + "drop 0 1 every 1 times 40", 1, 1, 40)
        self.good(UNIT + "drop 0 1\n" * 40, 1, 1, 40)
        self.good(UNIT + "drop 0 1 every 3 times 39\ndrop 0 0", 1, 1, 40)
        self.bad(UNIT + "drop 0 1 every 1 times 41", 4, 5)
        self.bad(UNIT + "drop 0 1 every 1 times 999", 4, 5)
        self.bad(UNIT + "drop 0 1\n" * 41, 44, 5)
        self.bad(UNIT + "drop 0 1 every 1 times 40\ndrop 0 1", 5, 5)
        self.bad(UNIT + "drop 0 1 every 1 times 40\ndrop 1 1", 5, 3)

    def test_without_a_part(self):
        self.bad("drop 0 1", 1, 6)
        self.bad("\n;\ndrop 999 1", 3, 6)
        self.bad("drop 0 1 every 1 times 999", 1, 6)
        self.bad("drop 999 1 every 1 times 999", 1, 6)


class EndOfText(TextCase):
    def test_no_part(self):
        self.bad("", 2, 6)
        self.bad("\n", 3, 6)
        self.bad(";", 2, 6)
        self.bad("  \n;\n\n", 5, 6)

    def test_part_not_ended(self):
        self.bad("part a 1 1", 2, 6)
        self.bad("part a 1 1\n", 3, 6)
        self.bad("part a 1 1\n:.", 3, 6)
        self.bad("part a 1 1\n:.\n", 4, 6)
        self.bad("part a 1 1\n:.\n\n", 5, 6)
        self.bad(UNIT + "part a 1 1\n:.", 6, 6)
        self.bad(UNIT + "part a 1 1\n:.\nput u 0 0\n", 8, 6)

    def test_good_ends(self):
        self.good("part a 1 1\n:.\nend", 1, 1, 0)
        self.good("part a 1 1\n:.\nend\n", 1, 1, 0)
        self.good("part a 1 1\n:.\nend\n\n  ", 1, 1, 0)

    def test_errors_of_lines_come_first(self):
        self.bad("part a 1 1\nnonsense", 2, 1)


class Drops(TextCase):
    def test_numbers_of_marbles(self):
        text = part("a", ["!!!"]) + "drop 2 5\ndrop 0 3 every 4 times 3\ndrop 1 1"
        self.assertEqual(rings_of(text), [(1, 4), (3, 1), (5, 0), (7, 2), (11, 3)])

    def test_every_tells_the_ticks_between(self):
        self.assertEqual(rings(["!"], "0 2 every 3 times 4"), [(2, 0), (5, 1), (8, 2), (11, 3)])
        self.assertEqual(rings(["!"], "0 39 every 1 times 3"), [(39, 0), (40, 1)])

    def test_the_board_is_the_last_part(self):
        text = part("a", ["!"]) + part("b", [".", "!"]) + "drop 0 1"
        self.assertEqual(run(load(text), RINGING), [[1, 2, 1], [1, 2, 0]])
