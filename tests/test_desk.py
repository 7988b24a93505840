"""The interface: a new object for each list, counts, and what is handed in."""

import unittest

from spantables.desk import answers

from helper import EXAMPLE, FAR, ask, cell, nth, put, read, row, show, shown, size, text, told


class NewObject(unittest.TestCase):
    def test_what_it_holds(self):
        self.assertEqual(ask(show()), [shown(text("@table 1", "@group", ""))])
        self.assertEqual(ask(cell(0, 0)), [[0, 0, 1, 1, 0]])
        self.assertEqual(ask(nth(0)), [[0, 0, 1, 1, 0]])
        self.assertEqual(ask(row(0)), [[0, 1, 0]])
        self.assertEqual(ask(size()), [[1, 1, 1, 1]])

    def test_what_it_refuses(self):
        for number in (-FAR, -1, 1, FAR):
            with self.subTest(number=number):
                self.assertEqual(ask(cell(number, 0), cell(0, number), nth(number), row(number)), [[-2]] * 4)
                self.assertEqual(ask(put(number, 0, "a"), put(0, number, "a"), show()), [
                    [-2], [-2], shown(text("@table 1", "@group", "")),
                ])

    def test_setting_its_one_cell(self):
        self.assertEqual(ask(put(0, 0, ""), put(0, 0, "a"), show()), [
            [0], [1], shown(text("@table 1", "@group", "a")),
        ])

    def test_a_fault_as_the_first_call(self):
        self.assertEqual(ask(read("@table 2"), size()), [[2, 9], [1, 1, 1, 1]])


class Interface(unittest.TestCase):
    def test_the_numbers_as_they_stand(self):
        given = text("@table 2", "@group", "a | b")
        calls = [0, len(given)] + given + [2, 0, 1, 3, 0, 1, 1, 99, 4, 1, 5, 0, 2, 9, 9, 1, 11]
        expected = [2, 0, 1, 6, 0, 1, 1, 1, 1, 98, 1, 1, 6, 0, 1, 1, 1, 1, 99, 4, 0, 2, 0, 1, 1, -2]
        expected += [len(given) + 1, len(given)] + text("@table 2", "@group", "a | c") + [4, 2, 1, 1, 2]
        self.assertEqual(answers(calls), expected)

    def test_what_is_handed_in_is_not_changed(self):
        calls = read(*EXAMPLE) + put(0, 0, "x") + put(0, 0, " ") + read("@table 1") + show() + nth(99) + row(1) + size()
        before = list(calls)
        answers(calls)
        self.assertEqual(calls, before)

    def test_what_is_given_back_is_new(self):
        calls = put(0, 0, "x") + cell(0, 0)
        first = answers(calls)
        first.clear()
        self.assertEqual(answers(calls), [1, 1, 6, 0, 0, 1, 1, 1, 120])

    def test_nothing_is_kept_from_one_time_to_the_next(self):
        ask(read(*EXAMPLE), put(0, 0, "x"))
        ask(put(0, 0, "x"))
        self.assertEqual(ask(show(), cell(0, 0)), [shown(text("@table 1", "@group", "")), told(0, 0, 1, 1, "")])

    def test_a_hundred_calls(self):
        calls = []
        for number in range(50):
            calls.extend([put(0, 0, str(number)), cell(0, 0)])
        expected = []
        for number in range(50):
            expected.extend([[1], told(0, 0, 1, 1, str(number))])
        self.assertEqual(ask(*calls), expected)

    def test_the_longest_text_and_more_than_a_million_numbers(self):
        lines = ["@table 12", "@head"] + [" | ".join(["t" * 20] * 12)] * 30 + ["@foot"] + [" | ".join(["u" * 21] * 12)] * 29
        given = text(*lines)
        self.assertLessEqual(len(given), 16900)
        found = ask(read(*lines), *[show()] * 99)
        self.assertEqual(found, [[0, 59]] + [shown(given)] * 99)
        self.assertGreater(sum(len(numbers) for numbers in found), 10 ** 6)


if __name__ == "__main__":
    unittest.main()
