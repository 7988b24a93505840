"""Which cells lie beside a cell, on each of its four sides."""

ABOVE = 0
LEFT = 1
BELOW = 2
RIGHT = 3


def is_side(number):
    return number in (ABOVE, LEFT, BELOW, RIGHT)


def share_a_row(cell, other):
    return cell.row < other.row + other.down and other.row < cell.row + cell.down


def share_a_column(cell, other):
    return cell.column < other.column + other.right and other.column < cell.column + cell.right


def lies_above(cell, other):
    return cell.row + cell.down == other.row and share_a_column(cell, other)


def lies_left(cell, other):
    return cell.column + cell.right == other.column and share_a_row(cell, other)


def lies_beside(cell, other, side):
    if side == ABOVE:
        return lies_above(cell, other)
    if side == LEFT:
        return lies_left(cell, other)
    if side == BELOW:
        return lies_above(other, cell)
    return lies_left(other, cell)


def cells_beside(table, cell, side):
    return [other for other in table.ordered_cells() if lies_beside(other, cell, side)]
