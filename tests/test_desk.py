"""The interface: a new object for each list, counts, and what is handed in."""

import unittest

from spantables.desk import answers

from helper import (
    EXAMPLE, FAR, around, ask, beside, cell, name, nth, part, put, read, row, show, shown, size, text, told, told_part,
    whole, whole_state,
)


class NewObject(unittest.TestCase):
    def test_what_it_holds(self):
        self.assertEqual(ask(show()), [shown(text("@table 1", "@group", ""))])
        self.assertEqual(ask(cell(0, 0)), [[0, 0, 1, 1, 0]])
        self.assertEqual(ask(nth(0)), [[0, 0, 1, 1, 0]])
        self.assertEqual(ask(row(0)), [[0, 1, 0]])
        self.assertEqual(ask(part(0)), [[1, 0, 1, 0]])
        self.assertEqual(ask(whole(0, 0, 1, 1)), [[1]])
        self.assertEqual(ask(around(0, 0, 1, 1)), [[0, 0, 1, 1]])
        for side in range(4):
            self.assertEqual(ask(beside(0, 0, side)), [[0]])
        self.assertEqual(ask(size()), [[1, 1, 1, 1]])

    def test_what_it_refuses(self):
        for number in (-FAR, -1, 1, FAR):
            with self.subTest(number=number):
                self.assertEqual(ask(cell(number, 0), cell(0, number), nth(number), row(number)), [[-2]] * 4)
                self.assertEqual(ask(put(number, 0, "a"), put(0, number, "a"), show()), [
                    [-2], [-2], shown(text("@table 1", "@group", "")),
                ])
                self.assertEqual(ask(part(number), name(number, "a"), show()), [
                    [-2], [-2], shown(text("@table 1", "@group", "")),
                ])
                self.assertEqual(ask(beside(number, 0, 0), beside(0, number, 0), beside(number, 0, 4)), [[-2]] * 3)
                for call in (whole, around):
                    self.assertEqual(ask(call(number, 0, 1, 1), call(0, number, 1, 1)), [[-2]] * 2)
        for number in (-FAR, -1, 0, 2, FAR):
            for call in (whole, around):
                self.assertEqual(ask(call(0, 0, number, 1), call(0, 0, 1, number)), [[-2]] * 2)
        for side in (-FAR, -1, 4, FAR):
            self.assertEqual(ask(beside(0, 0, side)), [[-3]])

    def test_naming_its_one_group(self):
        self.assertEqual(ask(name(0, ""), name(0, "a"), part(0), name(0, "|"), name(0, "a"), show(), name(0, "")), [
            [0], [1], told_part(1, 0, 1, "a"), [-1], [0], shown(text("@table 1", "@group a", "")), [1],
        ])

    def test_setting_its_one_cell(self):
        self.assertEqual(ask(put(0, 0, ""), put(0, 0, "a"), show()), [
            [0], [1], shown(text("@table 1", "@group", "a")),
        ])

    def test_a_fault_as_the_first_call(self):
        self.assertEqual(ask(read("@table 2"), size()), [[2, 9], [1, 1, 1, 1]])


class Interface(unittest.TestCase):
    def test_the_numbers_as_they_stand(self):
        given = text("@table 2", "@group", "a | b")
        calls = [0, len(given)] + given + [2, 0, 1, 3, 0, 1, 1, 99, 4, 1, 5, 0, 2, 9, 9, 1, 11]
        expected = [2, 0, 1, 6, 0, 1, 1, 1, 1, 98, 1, 1, 6, 0, 1, 1, 1, 1, 99, 4, 0, 2, 0, 1, 1, -2]
        expected += [len(given) + 1, len(given)] + text("@table 2", "@group", "a | c") + [4, 2, 1, 1, 2]
        self.assertEqual(answers(calls), expected)

    def test_the_numbers_of_the_later_calls_as_they_stand(self):
        given = text("@table 2", "@head", "^1x2 a", "@group no", "b | c")
        calls = [0, len(given)] + given
        calls += [6, 1, 6, 0, 7, 1, 2, 110, 111, 7, 1, 1, 120, 7, 0, 0, 6, 1, 7, 1, 0, 7, 1, 1, 124, 6, 1]
        calls += [8, 0, 0, 1, 1, 9, 0, 1, 2, 1, 10, 0, 0, 2, 10, 1, 0, 1, 10, 0, 0, 4, 8, 2, 0, 1, 1, 11]
        expected = [2, 0, 2, 6, 1, 1, 1, 2, 110, 111, 4, 0, 0, 1, 0, 1, 0, 1, 1, 1, -3, 5, 1, 1, 1, 1, 120, 1, 1, 1, -1]
        expected += [4, 1, 1, 1, 0, 1, 0, 4, 0, 0, 2, 2, 5, 2, 1, 0, 1, 1, 1, 0, 1, -3, 1, -2, 4, 2, 2, 2, 3]
        self.assertEqual(answers(calls), expected)

    def test_all_twelve_sorts_mixed(self):
        calls = (
            size(), read("@table 2", "@foot", "a"), read(*EXAMPLE), part(1), name(1, "south"), put(3, 2, "|"),
            beside(3, 2, 1), whole(2, 1, 1, 2), around(2, 1, 1, 2), name(0, "x"), read("@table 1", "@group", "^1x1"), part(1),
            cell(2, 2), nth(5), row(1), put(9, 9, "x"), name(1, " "), show(), read("@table 1", "@head", "^2x1 q", "^"),
            part(0), name(0, "x"), around(1, 0, 1, 1), whole(0, 0, 1, 1), beside(1, 0, 0), row(1), size(), show(),
        )
        expected = [
            [1, 1, 1, 1], [3, 7], [0, 4], told_part(1, 2, 2, "north"), [1], [1],
            [2, 2, 1, 3, 1], [0], [2, 1, 2, 2], [-3], [3, 4], told_part(1, 2, 2, "south"),
            told(2, 2, 2, 1, "|"), told(2, 1, 1, 1, "1"), [0, 2, 1, 2], [-2], [-1],
            shown(text(*EXAMPLE[:4], "@group south", "a\\|b | 1 | ^2x1 \\|", "c | 3")), [0, 2],
            told_part(0, 0, 2, ""), [-3], [0, 0, 2, 1], [0], [0], [0, 0], [1, 2, 1, 1],
            shown(text("@table 1", "@head", "^2x1 q", "^")),
        ]
        self.assertEqual(ask(*calls), expected)
        self.assertEqual(ask(*calls), expected)

    def test_questions_change_nothing(self):
        state = whole_state(4, 3, 9)
        before = ask(read(*EXAMPLE), *state)[1:]
        for call in (
            show(), cell(1, 0), nth(3), row(2), part(1), whole(2, 1, 1, 2), around(0, 0, 3, 2), beside(2, 2, 1), size(),
            cell(4, 0), nth(9), row(4), part(2), whole(0, 0, 5, 1), around(0, 0, 0, 1), beside(4, 0, 0), beside(0, 0, 4),
        ):
            with self.subTest(call=call):
                self.assertEqual(ask(read(*EXAMPLE), call, *state)[2:], before)

    def test_what_is_handed_in_is_not_changed(self):
        calls = read(*EXAMPLE) + put(0, 0, "x") + put(0, 0, " ") + read("@table 1") + show() + nth(99) + row(1) + size()
        calls += name(1, "x") + name(1, "") + name(0, "y") + name(1, "|") + part(1) + part(9) + show()
        calls += whole(2, 1, 1, 2) + around(2, 1, 1, 2) + beside(2, 2, 1) + beside(2, 2, 4) + around(0, 0, 9, 9)
        before = list(calls)
        answers(calls)
        self.assertEqual(calls, before)

    def test_what_is_given_back_is_new(self):
        calls = put(0, 0, "x") + cell(0, 0)
        first = answers(calls)
        first.clear()
        self.assertEqual(answers(calls), [1, 1, 6, 0, 0, 1, 1, 1, 120])

    def test_nothing_is_kept_from_one_time_to_the_next(self):
        ask(read(*EXAMPLE), put(0, 0, "x"))
        ask(put(0, 0, "x"), name(0, "y"))
        self.assertEqual(ask(show(), cell(0, 0)), [shown(text("@table 1", "@group", "")), told(0, 0, 1, 1, "")])

    def test_a_hundred_calls(self):
        calls = []
        for number in range(50):
            calls.extend([put(0, 0, str(number)), cell(0, 0)])
        expected = []
        for number in range(50):
            expected.extend([[1], told(0, 0, 1, 1, str(number))])
        self.assertEqual(ask(*calls), expected)

    def test_the_longest_text_and_more_than_a_million_numbers(self):
        lines = ["@table 12", "@head"] + [" | ".join(["t" * 20] * 12)] * 30 + ["@foot"] + [" | ".join(["u" * 21] * 12)] * 29
        given = text(*lines)
        self.assertLessEqual(len(given), 16900)
        found = ask(read(*lines), *[show()] * 99)
        self.assertEqual(found, [[0, 59]] + [shown(given)] * 99)
        self.assertGreater(sum(len(numbers) for numbers in found), 10 ** 6)


if __name__ == "__main__":
    unittest.main()
