"""Promise 1: read, and the words on texts, lines, rows, parts, laying and the nine reasons."""

import unittest

from helper import EXAMPLE, ask, ask_last, cell, nth, raw, read, read_raw, row, show, shown, size, text, told


def answer(*lines):
    return ask_last(read(*lines))


def one_row(line, columns=1):
    return answer(f"@table {columns}", "@group", line)


class Example(unittest.TestCase):
    def test_the_example_of_the_document(self):
        self.assertEqual(
            ask(read(*EXAMPLE), cell(3, 2), row(1), nth(5), read("@table 2", "@foot", "a"), size()),
            [[0, 4], [2, 2, 2, 1, 1, 50], [0, 2, 1, 2], [2, 1, 1, 1, 1, 49], [3, 7], [3, 4, 2, 9]],
        )


class Reason1(unittest.TestCase):
    def test_a_last_line_that_is_not_ended(self):
        self.assertEqual(ask_last(read_raw(raw("@table 1"))), [1, 1])
        self.assertEqual(ask_last(read_raw(raw("@table 1\n@group"))), [2, 1])
        self.assertEqual(ask_last(read_raw(raw("@table 1\n@group\na"))), [3, 1])

    def test_what_stands_behind_the_last_end_is_no_line_if_it_is_empty(self):
        self.assertEqual(ask_last(read_raw(raw("@table 1\n@group\na\n"))), [0, 1])

    def test_bytes_that_are_no_signs(self):
        for byte in (0, 9, 11, 13, 31, 127, 128, 255):
            with self.subTest(byte=byte):
                given = text("@table 1", "@group") + [97, byte, 97, 10]
                self.assertEqual(ask_last(read_raw(given)), [3, 1])

    def test_the_first_and_the_last_sign(self):
        given = text("@table 1", "@group") + [126, 32, 126, 10]
        self.assertEqual(ask_last(read_raw(given)), [0, 1])

    def test_it_comes_before_every_other_reason_of_the_line(self):
        self.assertEqual(answer("nonsense\t"), [1, 1])
        self.assertEqual(answer("@table 1", "@group", "a", "@head\t"), [4, 1])
        self.assertEqual(answer("@table 1", "@group", "^^\x7f"), [3, 1])
        self.assertEqual(ask_last(read_raw(raw("@table 1\n@group\na | b"))), [3, 1])


class Reason2(unittest.TestCase):
    def test_a_text_without_lines(self):
        self.assertEqual(ask_last(read_raw([])), [1, 2])

    def test_all_numbers_of_columns(self):
        for columns in range(1, 13):
            with self.subTest(columns=columns):
                self.assertEqual(answer(f"@table {columns}", "@group", " | ".join("a" * columns)), [0, 1])

    def test_first_lines_that_are_wrong(self):
        for first in (
            "", "@", "@table", "@table ", "@table 0", "@table 13", "@table 01", "@table 012", "@table -1", "@table +1",
            "@table 1 ", "@table  1", " @table 1", "@Table 1", "@table1", "@table a", "@table 1a", "table 1", "@head",
            "@group", "^", "a", "@table " + "1" * 5000, "@table 1.0", "@table 1_0",
        ):
            with self.subTest(first=first[:20]):
                self.assertEqual(answer(first, "@group", "a"), [1, 2])

    def test_later_lines_that_begin_with_at_and_are_no_parts(self):
        for line in (
            "@", "@table 1", "@Head", "@head ", "@head x", "@heads", "@foot ", "@foot x", "@group ", "@groupx",
            "@group  x", "@group x ", "@group  ", "@group a|b", "@group a^b", "@group a@b", "@group a\\b",
            "@group " + "n" * 21, "@@head", "@row",
        ):
            with self.subTest(line=line):
                self.assertEqual(answer("@table 1", line, "a"), [2, 2])
                self.assertEqual(answer("@table 1", "@group", "a", line, "a"), [4, 2])

    def test_a_row_without_a_part_before_it(self):
        for line in ("a", "", "^", "head", " @head", "a | b", "^^"):
            with self.subTest(line=line):
                self.assertEqual(answer("@table 1", line, "@group", "a"), [2, 2])

    def test_names_of_groups(self):
        for name in ("n" * 20, "a b", "a  b", "!", "head", "~" * 20, "1x2"):
            with self.subTest(name=name):
                self.assertEqual(answer("@table 1", "@group " + name, "a"), [0, 1])

    def test_it_comes_before_an_unfinished_part(self):
        self.assertEqual(answer("@table 1", "@group", "@grup"), [3, 2])
        self.assertEqual(answer("@table 1", "@group", "^2x1", "@foot x"), [4, 2])


class Reason3(unittest.TestCase):
    def test_a_head_is_first(self):
        self.assertEqual(answer("@table 1", "@head", "a", "@head", "a"), [4, 3])
        self.assertEqual(answer("@table 1", "@group", "a", "@head", "a"), [4, 3])
        self.assertEqual(answer("@table 1", "@foot", "a", "@head", "a"), [4, 3])

    def test_a_foot_is_last(self):
        self.assertEqual(answer("@table 1", "@foot", "a", "@group", "a"), [4, 3])
        self.assertEqual(answer("@table 1", "@foot", "a", "@group x", "a"), [4, 3])
        self.assertEqual(answer("@table 1", "@foot", "a", "@foot", "a"), [4, 3])
        self.assertEqual(answer("@table 1", "@head", "a", "@group", "a", "@foot", "a", "@foot", "a"), [8, 3])

    def test_twelve_groups_and_a_thirteenth(self):
        groups = ["@group", "a"] * 12
        self.assertEqual(answer("@table 1", *groups), [0, 12])
        self.assertEqual(answer("@table 1", "@head", "a", *groups, "@foot", "a"), [0, 14])
        self.assertEqual(answer("@table 1", *groups, "@group", "a"), [26, 3])
        self.assertEqual(answer("@table 1", "@head", "a", *groups, "@group x", "a"), [28, 3])

    def test_each_kind_of_part_alone(self):
        for part in ("@head", "@group", "@group x", "@foot"):
            with self.subTest(part=part):
                self.assertEqual(answer("@table 1", part, "a"), [0, 1])

    def test_head_and_foot_without_a_group(self):
        self.assertEqual(answer("@table 1", "@head", "a", "@foot", "a"), [0, 2])

    def test_it_comes_before_an_unfinished_part(self):
        self.assertEqual(answer("@table 1", "@group", "@head"), [3, 3])
        self.assertEqual(answer("@table 1", "@foot", "^2x1", "@foot"), [4, 3])
        self.assertEqual(answer("@table 1", *(["@group", "a"] * 11), "@group", "@group"), [25, 3])


class Reason4(unittest.TestCase):
    def test_lines_that_are_no_rows(self):
        for line in (
            "a |b", "a| b", "a|b", "|", " |", "| ", "a |", "| a", "a | | b", "a |", "a || b", "a | b |",
            "a  | b", "a |  b", " a", "a ", " ", "  ", "   ", " a | b",
            "a^b", "a@b", "a\\b", "a\\", "\\", "\\ ", "\\a", "\\\\\\", "a | @b", "a | \\",
            "a\\\\|", "a\\\\| b", "a \\\\|b",
            "^^", "^ ", "^ a", "^ | a", "a | ^", "^ | ^", "^x", "^2", "^2x", "^x2", "^2 x1", "^2x1a", "^2X1", "^ 2x1",
            "^1x1", "^1x1 a", "^0x1", "^1x0", "^0x0", "^31x1", "^1x13", "^02x1", "^2x01", "^-2x1", "^+2x1",
            "^2x1 ", "^2x1  a", "^2x1 a ", "^2x1 a^b", "^2x1x1", "^2x1 | ^", "^2x1\\", "^2x1 \\",
            "^" + "9" * 5000 + "x1", "^2x" + "0" * 5000 + "1",
        ):
            with self.subTest(line=line[:20]):
                self.assertEqual(one_row(line, 12), [3, 4])

    def test_sixty_signs_and_sixty_one(self):
        self.assertEqual(one_row("a" * 60), [0, 1])
        self.assertEqual(one_row("a" * 61), [3, 4])
        self.assertEqual(one_row("^1x2 " + "a" * 60, 2), [0, 1])
        self.assertEqual(one_row("^1x2 " + "a" * 61, 2), [3, 4])

    def test_backslashes_before_marks_are_no_signs_of_the_text(self):
        for mark in "|^@\\":
            with self.subTest(mark=mark):
                self.assertEqual(one_row(("\\" + mark) * 60), [0, 1])
                self.assertEqual(one_row(("\\" + mark) * 61), [3, 4])

    def test_it_comes_before_room_and_laying(self):
        self.assertEqual(answer("@table 1", "@group", *["a"] * 30, "a^"), [33, 4])
        self.assertEqual(one_row("a | b | c^"), [3, 4])
        self.assertEqual(one_row("^1x5 | ^1x1"), [3, 4])
        self.assertEqual(one_row("^1x13"), [3, 4])


class Reason5(unittest.TestCase):
    def test_thirty_rows_in_a_part(self):
        for part in ("@head", "@group", "@foot"):
            with self.subTest(part=part):
                self.assertEqual(answer("@table 1", part, *["a"] * 30), [0, 30])
                self.assertEqual(answer("@table 1", part, *["a"] * 31), [33, 5])

    def test_sixty_rows_in_a_table(self):
        full = ("@head", *["a"] * 20, "@group", *["a"] * 20, "@group", *["a"] * 20)
        self.assertEqual(answer("@table 1", *full), [0, 60])
        self.assertEqual(answer("@table 1", *full, "a"), [65, 5])
        self.assertEqual(answer("@table 1", *full, "@foot", "a"), [66, 5])
        self.assertEqual(answer("@table 1", *full, "@foot"), [66, 8])

    def test_two_parts_of_thirty_rows(self):
        self.assertEqual(answer("@table 1", "@head", *["a"] * 30, "@foot", *["a"] * 30), [0, 60])

    def test_it_comes_before_laying(self):
        self.assertEqual(answer("@table 1", "@group", *["a"] * 30, "a | b"), [33, 5])
        self.assertEqual(answer("@table 1", "@group", *["a"] * 30, "^"), [33, 5])


class Reason6(unittest.TestCase):
    def test_no_free_column(self):
        self.assertEqual(one_row("a | b"), [3, 6])
        self.assertEqual(one_row("^1x2 | b", 2), [3, 6])
        self.assertEqual(answer("@table 1", "@group", "^2x1", ""), [4, 6])
        self.assertEqual(one_row(" | ".join("a" * 13), 12), [3, 6])

    def test_a_covered_place(self):
        self.assertEqual(answer("@table 3", "@group", "a | ^2x1 | c", "^1x2 | d"), [4, 6])
        self.assertEqual(answer("@table 3", "@group", "a | ^3x1 | c", "d | e", "^1x3"), [5, 6])
        self.assertEqual(answer("@table 3", "@group", "a | ^2x1 | c", "^2x2"), [4, 6])

    def test_beyond_the_last_column(self):
        self.assertEqual(one_row("^1x2"), [3, 6])
        self.assertEqual(one_row("a | ^1x2", 2), [3, 6])
        self.assertEqual(one_row("^1x12", 11), [3, 6])
        self.assertEqual(one_row("^1x12", 12), [0, 1])

    def test_it_comes_before_a_free_place(self):
        self.assertEqual(answer("@table 4", "@group", "a | ^2x1 | c | d", "^1x2"), [4, 6])
        self.assertEqual(one_row("a | ^1x3", 3), [3, 6])

    def test_cells_go_to_the_first_free_columns(self):
        lines = ("@table 4", "@group", "a | ^2x1 b | c | ^2x1 d", "e | f")
        self.assertEqual(ask(read(*lines), cell(1, 0), cell(1, 1), cell(1, 2), cell(1, 3)), [
            [0, 2], told(1, 0, 1, 1, "e"), told(0, 1, 2, 1, "b"), told(1, 2, 1, 1, "f"), told(0, 3, 2, 1, "d"),
        ])


class Reason7(unittest.TestCase):
    def test_free_places_behind_the_cells(self):
        self.assertEqual(one_row("a", 2), [3, 7])
        self.assertEqual(one_row("", 2), [3, 7])
        self.assertEqual(one_row("^"), [3, 7])
        self.assertEqual(one_row("^1x11", 12), [3, 7])
        self.assertEqual(answer("@table 2", "@group", "^2x1 | a", "^"), [4, 7])
        self.assertEqual(answer("@table 3", "@group", "a | ^2x1 | c", "a"), [4, 7])

    def test_it_comes_before_an_unfinished_part(self):
        self.assertEqual(one_row("^2x1", 2), [3, 7])


class Reason8(unittest.TestCase):
    def test_a_part_without_rows(self):
        self.assertEqual(answer("@table 1", "@head", "@group", "a"), [3, 8])
        self.assertEqual(answer("@table 1", "@group", "@foot", "a"), [3, 8])
        self.assertEqual(answer("@table 1", "@group", "a", "@foot"), [5, 8])
        self.assertEqual(answer("@table 1", "@head"), [3, 8])

    def test_a_cell_that_goes_below_its_part(self):
        self.assertEqual(answer("@table 1", "@group", "^2x1"), [4, 8])
        self.assertEqual(answer("@table 1", "@group", "^2x1", "@group", "a"), [4, 8])
        self.assertEqual(answer("@table 2", "@group", "^3x1 | a", "b", "@foot", "^1x2"), [5, 8])
        self.assertEqual(answer("@table 2", "@group", "a | b", "c | ^30x1"), [5, 8])
        self.assertEqual(answer("@table 1", "@group", "^30x1", *["^"] * 28), [32, 8])

    def test_cells_that_just_reach_the_last_row(self):
        self.assertEqual(answer("@table 1", "@group", "^2x1", "^", "@foot", "^2x1", "^"), [0, 4])
        self.assertEqual(answer("@table 1", "@group", "^30x1", *["^"] * 29), [0, 30])
        self.assertEqual(answer("@table 12", "@group", "^30x12 a", *["^"] * 29), [0, 30])


class Reason9(unittest.TestCase):
    def test_no_part(self):
        self.assertEqual(answer("@table 1"), [2, 9])
        self.assertEqual(answer("@table 12"), [2, 9])


class SeveralLines(unittest.TestCase):
    def test_the_first_line_counts_whatever_its_reason(self):
        self.assertEqual(answer("@table 2", "@group", "a", "b\t"), [3, 7])
        self.assertEqual(answer("@table 2", "@group", "^2x1 | a", "@nothing"), [4, 2])
        self.assertEqual(answer("@table 1", "@group", "@group", "^^"), [3, 8])
        self.assertEqual(answer("@table 1", "@group", "a | b", "@head", "^1x1"), [3, 6])
        self.assertEqual(ask_last(read_raw(raw("@table 0\n@group"))), [1, 2])


class AfterRead(unittest.TestCase):
    def test_a_fault_leaves_everything_as_it_was(self):
        asked = [show(), size()] + [nth(k) for k in range(9)] + [row(r) for r in range(5)]
        before = ask(read(*EXAMPLE), *asked)[1:]
        faulty = (
            read_raw([]), read_raw(raw("@table 1")), read("@table 1", "a"), read("@table 1", "@foot", "a", "@group"),
            read("@table 1", "@group", "^^"), read("@table 1", "@group", *["b"] * 31),
            read("@table 1", "@group", "b", "b | c"), read("@table 2", "@group", "b | c", "d"),
            read("@table 1", "@group", "b", "@group"), read("@table 1"),
        )
        for call in faulty:
            found = ask(read(*EXAMPLE), call, *asked)
            self.assertGreater(found[1][1], 0)
            self.assertEqual(found[2:], before)

    def test_a_read_takes_the_place_of_what_was_there(self):
        self.assertEqual(ask(read(*EXAMPLE), read("@table 2", "@foot", "x | y"), show(), size(), cell(1, 0)), [
            [0, 4], [0, 1], shown(text("@table 2", "@foot", "x | y")), [2, 1, 1, 2], [-2],
        ])

    def test_texts_of_cells_without_backslashes(self):
        found = ask(read("@table 2", "@group", "\\^2x1 \\| \\\\ | \\@"), nth(0), nth(1))
        self.assertEqual(found[1:], [told(0, 0, 1, 1, "^2x1 | \\"), told(0, 1, 1, 1, "@")])

    def test_empty_rows_and_rows_of_one_empty_cell(self):
        self.assertEqual(ask(read("@table 1", "@group", "", "^2x1", "^", ""), row(0), row(1), row(2), size()), [
            [0, 4], [0, 1, 0], [0, 1, 0], [0, 0], [1, 4, 1, 3],
        ])

    def test_rows_of_cells_without_texts(self):
        self.assertEqual(ask(read("@table 3", "@group", " |  | "), size()), [[0, 1], [3, 1, 1, 3]])
        self.assertEqual(one_row(" | a", 2), [0, 1])
        self.assertEqual(one_row("a | ", 2), [0, 1])
        self.assertEqual(one_row("^1x2 | ", 3), [0, 1])


if __name__ == "__main__":
    unittest.main()
