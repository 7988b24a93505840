"""A table: its parts, its rows, and which cell covers each place."""

from spantables.parts import FOOT, GROUP, HEAD, part_words
from spantables.rows import lay_row, reaches_below, row_words
from spantables.signs import LINE_END, bytes_of, decimal

MOST_COLUMNS = 12
MOST_GROUPS = 12
MOST_PART_ROWS = 30
MOST_ROWS = 60


class Table:
    def __init__(self, columns):
        self.columns = columns
        self.parts = []
        # For each row the cells that begin in it.
        self.rows = []
        # For each row the cell that covers each column.
        self.covers = []

    def may_begin(self, part):
        kinds = [earlier.kind for earlier in self.parts]
        if part.kind == HEAD:
            return len(kinds) == 0
        if FOOT in kinds:
            return False
        return part.kind == FOOT or kinds.count(GROUP) < MOST_GROUPS

    def begin_part(self, part):
        part.first_row = len(self.rows)
        self.parts.append(part)

    # Whether the last part may end here. A cell that goes below the last row covers a place of that row.
    def may_end_part(self):
        if self.parts[-1].row_count == 0:
            return False
        last = len(self.rows) - 1
        return not any([reaches_below(cell, last) for cell in self.covers[last]])

    def has_room(self):
        return len(self.rows) < MOST_ROWS and self.parts[-1].row_count < MOST_PART_ROWS

    # The row above may be another part's: no cell of a part that has ended reaches into this row.
    def lay_next(self, cells):
        above = self.covers[-1] if len(self.covers) > 0 else [None] * self.columns
        return lay_row(above, len(self.rows), cells)

    def add_row(self, cells, cover):
        self.rows.append(cells)
        self.covers.append(cover)
        part = self.parts[-1]
        part.row_count += 1

    def has_row(self, row):
        return 0 <= row < len(self.rows)

    # The cell that covers the place, or None if it's no place of the table.
    def cell_at(self, row, column):
        if not self.has_row(row) or not 0 <= column < self.columns:
            return None
        return self.covers[row][column]

    # Cells are laid row by row and from left to right, so this is the order of cells.
    def ordered_cells(self):
        ordered = []
        for cells in self.rows:
            ordered.extend(cells)
        return ordered

    # The part with this number, or None if it's the number of none.
    def part_at(self, number):
        if not 0 <= number < len(self.parts):
            return None
        return self.parts[number]

    def part_number(self, row):
        started = [part for part in self.parts if part.first_row <= row]
        return len(started) - 1


def table_words(columns):
    return bytes_of("@table ") + decimal(columns)


def table_text(table):
    text = table_words(table.columns) + [LINE_END]
    for part in table.parts:
        text.extend(part_words(part) + [LINE_END])
        for row in range(part.first_row, part.first_row + part.row_count):
            text.extend(row_words(table.rows[row]) + [LINE_END])
    return text
