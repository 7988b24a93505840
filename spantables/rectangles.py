"""Rectangles of a table: which ones are whole, and the whole one around another."""


class Rectangle:
    def __init__(self, row, column, down, right):
        self.row = row
        self.column = column
        self.down = down
        self.right = right


def lies_in(rectangle, table):
    if rectangle.row < 0 or rectangle.column < 0 or rectangle.down < 1 or rectangle.right < 1:
        return False
    return rectangle.row + rectangle.down <= len(table.rows) and rectangle.column + rectangle.right <= table.columns


# The cell over each place of the rectangle: one that goes over several places stands here several times.
def cells_over(table, rectangle):
    cells = []
    for cover in table.covers[rectangle.row:rectangle.row + rectangle.down]:
        cells.extend(cover[rectangle.column:rectangle.column + rectangle.right])
    return cells


# The smallest rectangle that has all places of the cells over this one.
def grown(table, rectangle):
    cells = cells_over(table, rectangle)
    row = min([cell.row for cell in cells])
    column = min([cell.column for cell in cells])
    row_behind = max([cell.row + cell.down for cell in cells])
    column_behind = max([cell.column + cell.right for cell in cells])
    return Rectangle(row, column, row_behind - row, column_behind - column)


def same_size(rectangle, other):
    return rectangle.down == other.down and rectangle.right == other.right


# What has grown has all places of what it grew from, so if it is no larger, no cell went out.
def is_whole(table, rectangle):
    return same_size(rectangle, grown(table, rectangle))


# A whole rectangle that has all places of another one has those of its cells too: so no step grows beyond the one
# that is looked for.
def whole_around(table, rectangle):
    inner = rectangle
    outer = grown(table, inner)
    while not same_size(inner, outer):
        inner = outer
        outer = grown(table, inner)
    return outer
