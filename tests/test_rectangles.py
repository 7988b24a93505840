"""Promises 9 and 10: whole, around."""

import unittest

from helper import EXAMPLE, FAR, around, ask, ask_last, put, name, read, show, shown, text, whole

# From the first two places of row 0 on: b goes down, then d; g goes to the right, then c; then f goes down.
STAIRS = (
    "@table 5", "@group", "a | ^2x1 b | ^1x2 c | ^4x1 z", "^2x1 d | e | ^3x1 f", "^1x2 g", "h | ^1x2 i", "^1x5 j",
)
PINWHEEL = ("@table 3", "@group", "^1x2 a | ^2x1 b", "^2x1 c | d", "^1x2 e")


def both(lines, *rectangle):
    """What whole and around answer, once it is seen that neither changes the table."""
    found = ask(read(*lines), whole(*rectangle), around(*rectangle), show(), around(*rectangle), whole(*rectangle))
    if found[3] != shown(text(*lines)) or found[4:] != [found[2], found[1]]:
        raise AssertionError("asking changed something")
    return found[1], found[2]


class Rectangles(unittest.TestCase):
    def check(self, lines, rectangle, outer):
        with self.subTest(lines=lines[:4], rectangle=rectangle):
            self.assertEqual(both(lines, *rectangle), ([int(rectangle == outer)], list(outer)))
            self.assertEqual(both(lines, *outer), ([1], list(outer)))

    def test_the_example_of_the_document(self):
        self.assertEqual(ask(read(*EXAMPLE), whole(2, 1, 1, 2), around(2, 1, 1, 2)), [[0, 4], [0], [2, 1, 2, 2]])

    def test_each_place_of_the_example(self):
        outer = (
            ((0, 0, 2, 1), (0, 1, 1, 2), (0, 1, 1, 2)),
            ((0, 0, 2, 1), (1, 1, 1, 1), (1, 2, 1, 1)),
            ((2, 0, 1, 1), (2, 1, 1, 1), (2, 2, 2, 1)),
            ((3, 0, 1, 1), (3, 1, 1, 1), (2, 2, 2, 1)),
        )
        for row in range(4):
            for column in range(3):
                self.check(EXAMPLE, (row, column, 1, 1), outer[row][column])

    def test_all_of_the_table(self):
        self.check(EXAMPLE, (0, 0, 4, 3), (0, 0, 4, 3))
        self.check(STAIRS, (0, 0, 5, 5), (0, 0, 5, 5))
        self.check(PINWHEEL, (0, 0, 3, 3), (0, 0, 3, 3))

    def test_each_place_of_one_cell_that_is_all_of_the_table(self):
        lines = ("@table 3", "@group", "^2x3", "^")
        for rectangle in ((0, 0, 1, 1), (1, 2, 1, 1), (0, 1, 2, 1), (1, 0, 1, 3), (0, 1, 1, 2), (1, 1, 1, 1)):
            self.check(lines, rectangle, (0, 0, 2, 3))

    def test_a_cell_that_goes_out_on_one_side(self):
        lines = ("@table 3", "@group", "a | ^2x1 b | c", "d | e", "f | g | h")
        self.check(lines, (1, 1, 2, 1), (0, 1, 3, 1))
        self.check(lines, (0, 0, 1, 2), (0, 0, 2, 2))
        lines = ("@table 3", "@group", "^1x2 a | c", "d | ^1x2 e")
        self.check(lines, (0, 1, 1, 2), (0, 0, 1, 3))
        self.check(lines, (1, 0, 1, 2), (1, 0, 1, 3))

    def test_rectangles_of_single_places(self):
        lines = ("@table 3", "@group", "a | b | c", "d | e | f", "g | h | i")
        for rectangle in ((0, 0, 1, 1), (0, 0, 2, 2), (1, 1, 2, 2), (0, 2, 3, 1), (2, 0, 1, 3), (1, 1, 1, 1)):
            self.check(lines, rectangle, rectangle)

    def test_larger_several_times_down_and_to_the_right(self):
        self.check(STAIRS, (0, 0, 1, 2), (0, 0, 4, 4))

    def test_larger_several_times_up_and_to_the_left(self):
        self.check(STAIRS, (3, 2, 1, 2), (0, 1, 4, 3))
        self.check(STAIRS, (3, 4, 2, 1), (0, 0, 5, 5))

    def test_larger_one_way_after_the_other_round_a_middle(self):
        self.check(PINWHEEL, (1, 1, 1, 1), (1, 1, 1, 1))
        for rectangle in ((0, 0, 2, 1), (0, 1, 2, 1), (1, 1, 1, 2), (2, 0, 1, 2), (1, 0, 1, 2)):
            self.check(PINWHEEL, rectangle, (0, 0, 3, 3))

    def test_a_step_on_the_way_is_no_whole_one(self):
        for rectangle in ((0, 0, 2, 2), (0, 0, 3, 2), (0, 0, 3, 3), (0, 0, 3, 4)):
            self.check(STAIRS, rectangle, (0, 0, 4, 4))

    def test_over_several_parts(self):
        self.check(EXAMPLE, (1, 2, 2, 1), (1, 2, 3, 1))
        self.check(EXAMPLE, (1, 1, 3, 2), (1, 1, 3, 2))
        self.check(EXAMPLE, (1, 0, 2, 1), (0, 0, 3, 1))
        self.check(EXAMPLE, (0, 0, 3, 2), (0, 0, 4, 3))
        lines = ("@table 2", "@head", "^1x2 a", "@group", "b | c", "@group", "^2x1 d | e", "f", "@foot", "g | h")
        self.check(lines, (1, 0, 2, 1), (1, 0, 3, 1))
        self.check(lines, (1, 1, 4, 1), (1, 1, 4, 1))
        self.check(lines, (0, 1, 3, 1), (0, 0, 4, 2))
        self.check(lines, (0, 0, 5, 2), (0, 0, 5, 2))

    def test_the_largest_table(self):
        lines = ("@table 12", "@head", *["^1x12"] * 30, "@group", "^30x12", *["^"] * 29)
        self.check(lines, (0, 0, 60, 12), (0, 0, 60, 12))
        self.check(lines, (29, 11, 2, 1), (29, 0, 31, 12))
        self.check(lines, (59, 0, 1, 1), (30, 0, 30, 12))
        self.check(lines, (29, 3, 1, 1), (29, 0, 1, 12))

    def test_texts_and_names_change_no_rectangle(self):
        found = ask(read(*EXAMPLE), put(2, 2, ""), name(1, ""), whole(2, 1, 1, 2), around(2, 1, 1, 2), whole(2, 1, 2, 2))
        self.assertEqual(found[1:], [[1], [1], [0], [2, 1, 2, 2], [1]])


class Refusals(unittest.TestCase):
    def refused(self, lines, *rectangle):
        with self.subTest(rectangle=rectangle):
            found = ask(read(*lines), whole(*rectangle), around(*rectangle), show())
            self.assertEqual(found[1:], [[-2], [-2], shown(text(*lines))])

    def test_a_row_or_a_column_below_0(self):
        for far in (-1, -2, -4, -FAR):
            self.refused(EXAMPLE, far, 0, 1, 1)
            self.refused(EXAMPLE, 0, far, 1, 1)
            self.refused(EXAMPLE, far, far, 1, 1)
            self.refused(EXAMPLE, far, 0, 1 - far, 1)
            self.refused(EXAMPLE, 0, far, 1, 1 - far)

    def test_down_or_right_below_1(self):
        for few in (0, -1, -2, -FAR):
            self.refused(EXAMPLE, 0, 0, few, 1)
            self.refused(EXAMPLE, 0, 0, 1, few)
            self.refused(EXAMPLE, 3, 2, few, few)
            self.refused(EXAMPLE, 4, 0, few, 1)
            self.refused(EXAMPLE, 0, 3, 1, few)

    def test_beyond_the_last_row_or_column(self):
        for far in (1, 2, FAR):
            self.refused(EXAMPLE, 3 + far, 0, 1, 1)
            self.refused(EXAMPLE, 0, 2 + far, 1, 1)
            self.refused(EXAMPLE, 0, 0, 4 + far, 3)
            self.refused(EXAMPLE, 0, 0, 4, 3 + far)
            self.refused(EXAMPLE, 3, 0, 1 + far, 1)
            self.refused(EXAMPLE, 0, 2, 1, 1 + far)
            self.refused(EXAMPLE, 2, 2, 2 + far, 1 + far)

    def test_one_number_far_off(self):
        for far in (FAR, FAR - 1, -FAR, 1 - FAR):
            for place in range(4):
                rectangle = [0, 0, 1, 1]
                rectangle[place] = far
                self.refused(EXAMPLE, *rectangle)

    def test_numbers_far_off_either_way(self):
        for first in (FAR, -FAR):
            for second in (FAR, -FAR):
                self.refused(EXAMPLE, first, 0, second, 1)
                self.refused(EXAMPLE, 0, first, 1, second)
                self.refused(EXAMPLE, first, second, 1, 1)
                self.refused(EXAMPLE, 0, 0, first, second)
                self.refused(EXAMPLE, first, first, second, second)

    def test_the_largest_table(self):
        lines = ("@table 12", "@head", *["^1x12"] * 30, "@group", "^30x12", *["^"] * 29)
        self.refused(lines, 0, 0, 61, 12)
        self.refused(lines, 0, 0, 60, 13)
        self.refused(lines, 60, 0, 1, 1)
        self.refused(lines, 0, 12, 1, 1)

    def test_nothing_is_cut_to_the_table(self):
        self.assertEqual(ask_last(read(*EXAMPLE), around(-1, 0, 2, 1)), [-2])
        self.assertEqual(ask_last(read(*EXAMPLE), around(3, 2, 2, 1)), [-2])


if __name__ == "__main__":
    unittest.main()
