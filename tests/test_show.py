"""Promise 2: show, and a table's one form."""

import unittest

from helper import EXAMPLE, ask, put, read, read_raw, show, shown, size, text

TABLES = (
    EXAMPLE,
    ("@table 1", "@group", ""),
    ("@table 1", "@head", "a"),
    ("@table 1", "@foot", "a"),
    ("@table 2", "@head", "a | b", "@group", "^1x2", "@group " + "n" * 20, " | ", "@foot", "^1x2 \\^"),
    ("@table 1", "@group", "^30x1 x", *["^"] * 29),
    ("@table 12", "@group", "^30x12", *["^"] * 29),
    ("@table 12", "@group", " | ".join("abcdefghijkl")),
    ("@table 1", "@head", *["a"] * 30, "@foot", *[""] * 30),
    ("@table 1", *["@group x y", "\\|\\^\\@\\\\"] * 12),
    ("@table 1", "@group", "\\|" * 60),
    ("@table 3", "@group", " |  | ", "^3x1 | ^1x2 a  b", "^2x2 ~", "^"),
    ("@table 3", "@group", "^2x1 | ^1x2", " | "),
)


class Show(unittest.TestCase):
    def test_what_was_read_is_given_back_byte_for_byte(self):
        for lines in TABLES:
            with self.subTest(lines=lines[:4]):
                found = ask(read(*lines), show())
                self.assertEqual(found[0][0], 0)
                self.assertEqual(found[1], shown(text(*lines)))

    def test_what_is_shown_can_be_read_again(self):
        for lines in TABLES:
            with self.subTest(lines=lines[:4]):
                first = ask(read(*lines), put(0, 0, "|^@\\ x"), show(), size())
                again = ask(read_raw(first[2][1:]), show(), size())
                self.assertEqual(again[0], first[0])
                self.assertEqual(again[1:], first[2:])

    def test_texts_that_were_set_are_shown_in_their_one_form(self):
        found = ask(
            read(*EXAMPLE), put(0, 0, ""), put(0, 1, "^|"), put(1, 1, ""), put(1, 2, "@head"), put(2, 0, "a\\b"), show(),
        )
        self.assertEqual(found[-1], shown(text(
            "@table 3", "@head", "^2x1 | ^1x2 \\^\\|", " | \\@head", "@group north", "a\\\\b | 1 | ^2x1 2", "c | 3",
        )))

    def test_a_row_of_no_cells_and_a_row_of_one_empty_cell(self):
        found = ask(read("@table 1", "@group", "^2x1 a", "^", "b"), put(1, 0, ""), put(2, 0, ""), show())
        self.assertEqual(found[-1], shown(text("@table 1", "@group", "^2x1", "^", "")))

    def test_a_text_longer_than_what_can_be_read(self):
        rows = [" | " * 11] * 15
        calls = [read("@table 12", "@group", *rows)]
        calls.extend(put(k // 12, k % 12, "|" * 60) for k in range(98))
        calls.append(show())
        wide = " | ".join(["\\|" * 60] * 12)
        part = " | ".join(["\\|" * 60] * 2) + " | " * 10
        self.assertEqual(ask(*calls)[-1], shown(text("@table 12", "@group", *[wide] * 8, part, *rows[9:])))

    def test_showing_changes_nothing(self):
        found = ask(read(*EXAMPLE), show(), show(), size(), show())
        self.assertEqual(found[1], found[2])
        self.assertEqual(found[1], found[4])


if __name__ == "__main__":
    unittest.main()
