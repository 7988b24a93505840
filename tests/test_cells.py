"""Promises 3 to 5: cell, set, nth."""

import unittest

from helper import EXAMPLE, FAR, ask, ask_last, cell, nth, put, raw, read, told, whole_state

CELLS = (
    told(0, 0, 2, 1, "Name"), told(0, 1, 1, 2, "Sold"), told(1, 1, 1, 1, "1999"), told(1, 2, 1, 1, "2000"),
    told(2, 0, 1, 1, "a|b"), told(2, 1, 1, 1, "1"), told(2, 2, 2, 1, "2"), told(3, 0, 1, 1, "c"), told(3, 1, 1, 1, "3"),
)
COVERS = ((0, 1, 1), (0, 2, 3), (4, 5, 6), (7, 8, 6))
NO_PLACES = (
    (-1, 0), (0, -1), (4, 0), (0, 3), (4, 3), (-1, -1), (FAR, 0), (0, FAR), (-FAR, 0), (0, -FAR), (FAR, FAR),
    (-FAR, -FAR), (-4, 0), (0, -3),
)


class CellCall(unittest.TestCase):
    def test_each_place_means_the_cell_that_covers_it(self):
        calls = [cell(r, c) for r in range(4) for c in range(3)]
        self.assertEqual(ask(read(*EXAMPLE), *calls)[1:], [CELLS[k] for covers in COVERS for k in covers])

    def test_what_is_no_place(self):
        for place in NO_PLACES:
            with self.subTest(place=place):
                self.assertEqual(ask_last(read(*EXAMPLE), cell(*place)), [-2])

    def test_the_largest_cell(self):
        lines = ("@table 12", "@head", *["^1x12"] * 30, "@group", "^30x12 " + "t" * 60, *["^"] * 29)
        big = told(30, 0, 30, 12, "t" * 60)
        self.assertEqual(ask(read(*lines), cell(30, 0), cell(59, 11), cell(45, 6), cell(60, 0), cell(59, 12))[1:], [
            big, big, big, [-2], [-2],
        ])


class SetCall(unittest.TestCase):
    def test_another_text_and_the_same_again(self):
        self.assertEqual(ask(read(*EXAMPLE), put(3, 2, "new"), cell(2, 2), put(2, 2, "new"), cell(3, 2)), [
            [0, 4], [1], told(2, 2, 2, 1, "new"), [0], told(2, 2, 2, 1, "new"),
        ])

    def test_the_text_that_was_read_is_no_other_one(self):
        self.assertEqual(ask(read(*EXAMPLE), put(2, 0, "a|b"), put(2, 0, "a\\|b"), cell(2, 0))[1:], [
            [0], [1], told(2, 0, 1, 1, "a\\|b"),
        ])

    def test_an_empty_text(self):
        self.assertEqual(ask(read(*EXAMPLE), put(0, 0, ""), put(1, 0, ""), put(0, 0, "x"), cell(1, 0))[1:], [
            [1], [0], [1], told(0, 0, 2, 1, "x"),
        ])

    def test_no_other_cell_changes(self):
        changed = ask(read(*EXAMPLE), put(1, 1, "x"), *[nth(k) for k in range(9)])[2:]
        self.assertEqual(changed, [told(1, 1, 1, 1, "x") if k == 2 else CELLS[k] for k in range(9)])

    def test_texts_that_a_cell_may_have(self):
        for words in ("t" * 60, "a b", "a  b", "|", "^2x1", "@head", "\\", "~", "!", "%", "|" * 60):
            with self.subTest(words=words):
                self.assertEqual(ask(put(0, 0, words), cell(0, 0)), [[1], told(0, 0, 1, 1, words)])

    def test_texts_that_no_cell_may_have(self):
        state = whole_state(4, 3, 9)
        before = ask(read(*EXAMPLE), *state)[1:]
        for given in (
            raw("t" * 61), raw(" "), raw(" a"), raw("a "), raw("a\n"), raw("\t"), [0], [31], [127], [255], [97, 128, 97],
            [97] * 16900,
        ):
            with self.subTest(given=given[:5]):
                found = ask(read(*EXAMPLE), put(3, 2, given), *state)
                self.assertEqual(found[1], [-1])
                self.assertEqual(found[2:], before)

    def test_what_is_no_place_comes_first(self):
        state = whole_state(4, 3, 9)
        before = ask(read(*EXAMPLE), *state)[1:]
        for place in NO_PLACES:
            for words in ("x", " x", "t" * 61):
                with self.subTest(place=place, words=words):
                    found = ask(read(*EXAMPLE), put(*place, words), *state)
                    self.assertEqual(found[1], [-2])
                    self.assertEqual(found[2:], before)

    def test_a_read_forgets_what_was_set(self):
        self.assertEqual(ask(read(*EXAMPLE), put(0, 0, "x"), read(*EXAMPLE), cell(0, 0))[2:], [[0, 4], CELLS[0]])

    def test_a_read_with_a_fault_keeps_what_was_set(self):
        self.assertEqual(ask(read(*EXAMPLE), put(0, 0, "x"), read("@table 1"), cell(0, 0))[2:], [
            [2, 9], told(0, 0, 2, 1, "x"),
        ])


class NthCall(unittest.TestCase):
    def test_the_order_of_cells(self):
        self.assertEqual(ask(read(*EXAMPLE), *[nth(k) for k in range(9)])[1:], list(CELLS))

    def test_numbers_that_no_cell_has(self):
        for k in (-1, 9, 10, -9, FAR, -FAR):
            with self.subTest(k=k):
                self.assertEqual(ask_last(read(*EXAMPLE), nth(k)), [-2])

    def test_the_first_place_counts_and_not_the_size(self):
        lines = ("@table 3", "@group", "^3x1 a | b | ^2x1 c", "d", "^1x2 e")
        self.assertEqual(ask(read(*lines), *[nth(k) for k in range(6)])[1:], [
            told(0, 0, 3, 1, "a"), told(0, 1, 1, 1, "b"), told(0, 2, 2, 1, "c"), told(1, 1, 1, 1, "d"),
            told(2, 1, 1, 2, "e"), [-2],
        ])

    def test_as_many_cells_as_a_table_can_have(self):
        full = " | " * 11
        lines = ("@table 12", "@head", *[full] * 30, "@foot", *[full] * 30)
        self.assertEqual(ask(read(*lines), nth(719), nth(720), nth(13))[1:], [
            told(59, 11, 1, 1, ""), [-2], told(1, 1, 1, 1, ""),
        ])


if __name__ == "__main__":
    unittest.main()
