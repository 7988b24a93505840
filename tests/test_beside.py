"""Promise 11: beside."""

import unittest

from helper import EXAMPLE, FAR, ask, ask_last, beside, name, put, read, show, shown, text

ABOVE, LEFT, BELOW, RIGHT = 0, 1, 2, 3

# m covers rows 2 and 3 of columns 2 and 3. Those around it begin and end at other rows and columns than it does.
MIDDLE = (
    "@table 6", "@group",
    "^2x2 a | ^2x1 b | ^1x2 c | d",
    "^1x2 f | g",
    "h | ^3x1 i | ^2x2 m | j | ^2x1 k",
    "l | ^2x1 n",
    "o | p | q | r",
)
SINGLE = ("@table 3", "@group", "a | b | c", "d | e | f", "g | h | i")


def listed(*places):
    return [len(places)] + [number for place in places for number in place]


def four_sides(lines, row, column):
    found = ask(read(*lines), *[beside(row, column, side) for side in range(4)], show())
    if found[5] != shown(text(*lines)):
        raise AssertionError("asking changed something")
    return found[1:5]


class Beside(unittest.TestCase):
    def test_the_example_of_the_document(self):
        self.assertEqual(ask_last(read(*EXAMPLE), beside(2, 2, 1)), [2, 2, 1, 3, 1])

    def test_all_sides_in_the_example(self):
        self.assertEqual(four_sides(EXAMPLE, 0, 0), [listed(), listed(), listed((2, 0)), listed((0, 1), (1, 1))])
        self.assertEqual(four_sides(EXAMPLE, 0, 1), [listed(), listed((0, 0)), listed((1, 1), (1, 2)), listed()])
        self.assertEqual(four_sides(EXAMPLE, 1, 1), [
            listed((0, 1)), listed((0, 0)), listed((2, 1)), listed((1, 2)),
        ])
        self.assertEqual(four_sides(EXAMPLE, 3, 1), [listed((2, 1)), listed((3, 0)), listed(), listed((2, 2))])

    def test_single_places_and_no_corner(self):
        self.assertEqual(four_sides(SINGLE, 1, 1), [listed((0, 1)), listed((1, 0)), listed((2, 1)), listed((1, 2))])

    def test_no_cell_at_the_edges(self):
        self.assertEqual(four_sides(SINGLE, 0, 0), [listed(), listed(), listed((1, 0)), listed((0, 1))])
        self.assertEqual(four_sides(SINGLE, 2, 2), [listed((1, 2)), listed((2, 1)), listed(), listed()])
        self.assertEqual(four_sides(("@table 3", "@group", "^2x3", "^"), 1, 1), [listed()] * 4)

    def test_several_cells_on_each_side(self):
        self.assertEqual(four_sides(MIDDLE, 2, 2), [
            listed((0, 2), (1, 3)), listed((2, 1)), listed((4, 2), (4, 3)), listed((2, 4), (3, 4)),
        ])

    def test_each_place_means_the_cell(self):
        for row in (2, 3):
            for column in (2, 3):
                self.assertEqual(four_sides(MIDDLE, row, column), four_sides(MIDDLE, 2, 2))

    def test_cells_that_reach_beyond_the_own_side(self):
        lines = ("@table 4", "@group", "^1x3 a | b", "^3x1 c | d | ^1x2 e", "^1x2 f | g", "h | ^1x2 i")
        self.assertEqual(four_sides(lines, 1, 1), [listed((0, 0)), listed((1, 0)), listed((2, 1)), listed((1, 2))])
        self.assertEqual(four_sides(lines, 1, 2), [
            listed((0, 0), (0, 3)), listed((1, 1)), listed((2, 1), (2, 3)), listed(),
        ])
        self.assertEqual(four_sides(lines, 3, 2), [
            listed((2, 1), (2, 3)), listed((3, 1)), listed(), listed(),
        ])

    def test_above_is_in_the_order_of_cells_and_not_from_left_to_right(self):
        lines = ("@table 4", "@group", "a | ^2x1 b | c | ^3x1 d", "^2x1 e | f", "g | h", "^1x4 i")
        self.assertEqual(four_sides(lines, 3, 3)[ABOVE], listed((0, 3), (1, 0), (2, 1), (2, 2)))

    def test_left_and_right_are_in_the_order_of_cells(self):
        lines = ("@table 4", "@group", "^1x2 a | ^3x1 b | c", "d | e | f", "^1x2 g | h")
        self.assertEqual(four_sides(lines, 1, 2), [
            listed(), listed((0, 0), (1, 1), (2, 0)), listed(), listed((0, 3), (1, 3), (2, 3)),
        ])

    def test_cells_that_only_touch_at_a_corner(self):
        lines = ("@table 4", "@group", "^2x2 a | b | c", "d | e", "f | g | ^2x2 h", "i | j")
        self.assertEqual(four_sides(lines, 0, 0), [listed(), listed(), listed((2, 0), (2, 1)), listed((0, 2), (1, 2))])
        self.assertEqual(four_sides(lines, 3, 3), [listed((1, 2), (1, 3)), listed((2, 1), (3, 1)), listed(), listed()])

    def test_cells_in_the_next_row_but_other_columns(self):
        lines = ("@table 3", "@group", "a | ^2x1 b | c", "d | e", "f | g | h")
        self.assertEqual(four_sides(lines, 0, 0)[BELOW], listed((1, 0)))
        self.assertEqual(four_sides(lines, 1, 1), [
            listed(), listed((0, 0), (1, 0)), listed((2, 1)), listed((0, 2), (1, 2)),
        ])

    def test_across_two_parts(self):
        lines = ("@table 2", "@head", "^1x2 a", "@group", "^2x1 b | c", "d", "@group x", "e | f", "@foot", "^1x2 g")
        self.assertEqual(four_sides(lines, 2, 0), [listed((0, 0)), listed(), listed((3, 0)), listed((1, 1), (2, 1))])
        self.assertEqual(four_sides(lines, 0, 1), [listed(), listed(), listed((1, 0), (1, 1)), listed()])
        self.assertEqual(four_sides(lines, 3, 1), [listed((2, 1)), listed((3, 0)), listed((4, 0)), listed()])
        self.assertEqual(four_sides(lines, 4, 1), [listed((3, 0), (3, 1)), listed(), listed(), listed()])

    def test_as_many_as_there_can_be(self):
        lines = ("@table 12", "@head", " | " * 11, "@group", "^1x12", " | " * 11)
        self.assertEqual(four_sides(lines, 1, 5), [
            listed(*[(0, c) for c in range(12)]), listed(), listed(*[(2, c) for c in range(12)]), listed(),
        ])
        lines = ("@table 3", "@group", " | ^30x1 | ", *[" | "] * 29)
        self.assertEqual(four_sides(lines, 29, 1), [
            listed(), listed(*[(r, 0) for r in range(30)]), listed(), listed(*[(r, 2) for r in range(30)]),
        ])

    def test_texts_and_names_change_nothing_beside(self):
        found = ask(read(*EXAMPLE), put(2, 1, ""), put(3, 1, ""), name(1, ""), beside(3, 2, 1), beside(3, 2, 0))
        self.assertEqual(found[4:], [[2, 2, 1, 3, 1], [1, 1, 2]])


class Refusals(unittest.TestCase):
    def test_what_is_no_side(self):
        for side in (-1, 4, 5, -4, FAR, -FAR):
            with self.subTest(side=side):
                self.assertEqual(ask(read(*EXAMPLE), beside(2, 2, side), show())[1:], [[-3], shown(text(*EXAMPLE))])

    def test_what_is_no_place_comes_first(self):
        for place in ((-1, 0), (0, -1), (4, 0), (0, 3), (FAR, 0), (0, FAR), (-FAR, 0), (0, -FAR), (FAR, -FAR), (-4, -3)):
            for side in (-1, 0, 1, 2, 3, 4, FAR, -FAR):
                with self.subTest(place=place, side=side):
                    found = ask(read(*EXAMPLE), beside(*place, side), show())
                    self.assertEqual(found[1:], [[-2], shown(text(*EXAMPLE))])


if __name__ == "__main__":
    unittest.main()
