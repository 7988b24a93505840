"""Promises 7 and 8: part, name."""

import unittest

from helper import (
    EXAMPLE, FAR, ask, ask_last, name, part, put, raw, read, read_raw, row, show, shown, size, text, told_part, whole_state,
)

HEAD, GROUP, FOOT = 0, 1, 2
ALL_SORTS = (
    "@table 2", "@head", "a | b", "^1x2", "@group", "c | d", "@group some name", "^3x1 | e", "f", "g", "@foot", "^1x2 h",
)
SHOWN_PARTS = (
    told_part(HEAD, 0, 2, ""), told_part(GROUP, 2, 1, ""), told_part(GROUP, 3, 3, "some name"), told_part(FOOT, 6, 1, ""),
)
NO_PARTS = (-1, 4, 5, -4, FAR, -FAR)
RIGHT_NAMES = ("", "x", "n" * 20, "a b", "a  b", "!", "~" * 20, "head", "%", "\"'", "1x2", "some namE")
WRONG_NAMES = (
    raw("n" * 21), raw(" "), raw(" a"), raw("a "), raw("  "), raw("|"), raw("^"), raw("@"), raw("\\"), raw("a|b"), raw("a^b"),
    raw("a@b"), raw("a\\b"), raw("\\|"), raw("a\n"), raw("\n"), raw("a\tb"), [0], [31], [127], [255], [97, 128, 97],
    raw("n" * 16900), raw("n" * 20 + " "), raw(" " + "n" * 19),
)


def with_name(words):
    lines = list(ALL_SORTS)
    lines[6] = "@group " + words if words else "@group"
    return shown(text(*lines))


class PartCall(unittest.TestCase):
    def test_the_example(self):
        self.assertEqual(ask(read(*EXAMPLE), *[part(i) for i in range(-1, 3)])[1:], [
            [-2], told_part(HEAD, 0, 2, ""), told_part(GROUP, 2, 2, "north"), [-2],
        ])

    def test_each_sort_behind_other_parts(self):
        self.assertEqual(ask(read(*ALL_SORTS), *[part(i) for i in range(4)])[1:], list(SHOWN_PARTS))

    def test_each_sort_alone(self):
        for line, expected in (
            ("@head", told_part(HEAD, 0, 1, "")), ("@group", told_part(GROUP, 0, 1, "")),
            ("@group head", told_part(GROUP, 0, 1, "head")), ("@foot", told_part(FOOT, 0, 1, "")),
        ):
            with self.subTest(line=line):
                self.assertEqual(ask_last(read("@table 1", line, "a"), part(0)), expected)

    def test_numbers_that_no_part_has(self):
        for i in NO_PARTS:
            with self.subTest(i=i):
                self.assertEqual(ask_last(read(*ALL_SORTS), part(i)), [-2])

    def test_as_many_parts_as_a_table_can_have(self):
        lines = ["@table 1", "@head", *["a"] * 4]
        for number in range(12):
            lines += [f"@group g{number}", *["a"] * 4]
        lines += ["@foot", "^8x1 a", *["^"] * 7]
        expected = [told_part(HEAD, 0, 4, "")]
        expected += [told_part(GROUP, 4 + 4 * number, 4, f"g{number}") for number in range(12)]
        expected += [told_part(FOOT, 52, 8, ""), [-2]]
        self.assertEqual(ask(read(*lines), *[part(i) for i in range(15)])[1:], expected)

    def test_two_parts_of_thirty_rows(self):
        lines = ("@table 1", "@group a", *["a"] * 30, "@group a", *["a"] * 30)
        self.assertEqual(ask(read(*lines), part(0), part(1), part(2))[1:], [
            told_part(GROUP, 0, 30, "a"), told_part(GROUP, 30, 30, "a"), [-2],
        ])

    def test_asking_changes_nothing(self):
        self.assertEqual(ask(read(*ALL_SORTS), part(2), part(9), part(2), show())[3:], [
            SHOWN_PARTS[2], shown(text(*ALL_SORTS)),
        ])


class NameCall(unittest.TestCase):
    def test_another_name_and_the_same_again(self):
        self.assertEqual(ask(read(*EXAMPLE), name(1, "south"), part(1), name(1, "south"), part(1))[1:], [
            [1], told_part(GROUP, 2, 2, "south"), [0], told_part(GROUP, 2, 2, "south"),
        ])

    def test_the_name_that_was_read_is_no_other_one(self):
        self.assertEqual(ask(read(*EXAMPLE), name(1, "north"), name(1, "North"), name(1, "nort"))[1:], [[0], [1], [1]])

    def test_the_empty_name(self):
        self.assertEqual(ask(read(*ALL_SORTS), name(2, ""), name(2, ""), show(), name(1, ""), name(2, "x"), show())[1:], [
            [1], [0], with_name(""), [0], [1], with_name("x"),
        ])

    def test_names_that_a_group_may_have(self):
        for words in RIGHT_NAMES:
            with self.subTest(words=words):
                found = ask(read(*ALL_SORTS), name(2, words), part(2), show(), name(2, words))
                self.assertEqual(found[1:], [[1], told_part(GROUP, 3, 3, words), with_name(words), [0]])

    def test_what_is_shown_can_be_read_again(self):
        for words in RIGHT_NAMES:
            with self.subTest(words=words):
                first = ask(read(*ALL_SORTS), name(2, words), show(), part(2), size())
                again = ask(read_raw(first[2][1:]), show(), part(2), size())
                self.assertEqual(again, [[0, 7]] + first[2:])

    def refused(self, i, given, refusal):
        state = whole_state(7, 2, 10)
        with self.subTest(i=i, given=given[:22]):
            found = ask(read(*ALL_SORTS), name(i, given), *state)
            self.assertEqual(found[1], [refusal])
            self.assertEqual(found[2:], ask(read(*ALL_SORTS), *state)[1:])

    def test_names_that_no_group_may_have(self):
        for given in WRONG_NAMES:
            self.refused(1, given, -1)
            self.refused(2, given, -1)

    def test_a_head_or_a_foot_comes_before_a_wrong_name(self):
        for given in ([], raw("x"), *WRONG_NAMES):
            self.refused(0, given, -3)
            self.refused(3, given, -3)

    def test_no_part_comes_before_all_else(self):
        for i in NO_PARTS:
            for given in ([], raw("x"), *WRONG_NAMES):
                self.refused(i, given, -2)

    def test_a_table_without_a_group(self):
        lines = ("@table 1", "@head", "a", "@foot", "b")
        self.assertEqual(ask(read(*lines), name(0, "x"), name(1, "x"), name(2, "x"), show())[1:], [
            [-3], [-3], [-2], shown(text(*lines)),
        ])

    def test_no_other_group_and_no_cell_changes(self):
        found = ask(read(*ALL_SORTS), name(1, "some name"), name(2, "other"), *[part(i) for i in range(4)], show())
        lines = list(ALL_SORTS)
        lines[4], lines[6] = "@group some name", "@group other"
        self.assertEqual(found[1:], [
            [1], [1], SHOWN_PARTS[0], told_part(GROUP, 2, 1, "some name"), told_part(GROUP, 3, 3, "other"), SHOWN_PARTS[3],
            shown(text(*lines)),
        ])

    def test_set_and_name_keep_to_themselves(self):
        found = ask(read(*EXAMPLE), name(1, "x"), put(2, 0, "y"), part(1), name(1, "y"), row(2), show())
        self.assertEqual(found[1:], [
            [1], [1], told_part(GROUP, 2, 2, "x"), [1], [1, 3, 0, 1, 2],
            shown(text(*EXAMPLE[:4], "@group y", "y | 1 | ^2x1 2", "c | 3")),
        ])

    def test_a_read_forgets_the_name_and_a_fault_keeps_it(self):
        self.assertEqual(ask(read(*EXAMPLE), name(1, "x"), read("@table 1"), part(1), read(*EXAMPLE), part(1))[2:], [
            [2, 9], told_part(GROUP, 2, 2, "x"), [0, 4], told_part(GROUP, 2, 2, "north"),
        ])


if __name__ == "__main__":
    unittest.main()
