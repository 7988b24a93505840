"""Promises 6 and 12: row, size."""

import unittest

from helper import EXAMPLE, FAR, ask, ask_last, put, read, row, show, shown, size, text


class RowCall(unittest.TestCase):
    def test_the_rows_of_the_example(self):
        self.assertEqual(ask(read(*EXAMPLE), row(0), row(1), row(2), row(3))[1:], [
            [0, 2, 0, 1], [0, 2, 1, 2], [1, 3, 0, 1, 2], [1, 2, 0, 1],
        ])

    def test_what_is_no_row(self):
        for number in (-1, 4, 5, -4, FAR, -FAR):
            with self.subTest(number=number):
                self.assertEqual(ask_last(read(*EXAMPLE), row(number)), [-2])

    def test_a_row_in_which_no_cell_begins(self):
        self.assertEqual(ask(read("@table 2", "@group", "^2x1 | ^2x1", "^", "^1x2"), row(1), row(2))[1:], [
            [0, 0], [0, 1, 0],
        ])

    def test_columns_between_covered_ones(self):
        lines = ("@table 5", "@group", "^2x1 | a | ^2x1 | b | ^2x1", "c | d")
        self.assertEqual(ask_last(read(*lines), row(1)), [0, 2, 1, 3])

    def test_the_numbers_of_all_parts(self):
        lines = ["@table 1", "@head", "a", "a"]
        for _ in range(12):
            lines += ["@group", "a", "a"]
        lines += ["@foot", "a", "a"]
        found = ask(read(*lines), *[row(r) for r in range(28)])
        self.assertEqual(found, [[0, 28]] + [[r // 2, 1, 0] for r in range(28)])

    def test_a_table_of_sixty_rows(self):
        lines = ("@table 1", "@group", *["a"] * 30, "@group", *["a"] * 30)
        self.assertEqual(ask(read(*lines), row(29), row(30), row(59), row(60))[1:], [
            [0, 1, 0], [1, 1, 0], [1, 1, 0], [-2],
        ])


class SizeCall(unittest.TestCase):
    def test_the_example(self):
        self.assertEqual(ask_last(read(*EXAMPLE), size()), [3, 4, 2, 9])

    def test_the_largest_table(self):
        lines = ["@table 12", "@head"] + [" | " * 11] * 4
        for _ in range(12):
            lines += ["@group"] + ["^1x12"] * 4
        lines += ["@foot"] + ["^8x12"] + ["^"] * 7
        self.assertEqual(ask(read(*lines), size()), [[0, 60], [12, 60, 14, 97]])

    def test_setting_texts_changes_no_size(self):
        self.assertEqual(ask_last(read(*EXAMPLE), put(0, 0, "a | b"), size()), [3, 4, 2, 9])


class Refusals(unittest.TestCase):
    def test_refused_calls_leave_the_table_as_it_was(self):
        found = ask(read(*EXAMPLE), row(4), row(-1), size(), show())
        self.assertEqual(found[1:], [[-2], [-2], [3, 4, 2, 9], shown(text(*EXAMPLE))])


if __name__ == "__main__":
    unittest.main()
