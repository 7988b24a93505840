"""Rows' lines, and how a row's cells are laid."""

from spantables.cells import cell_words, cell_written
from spantables.signs import BACKSLASH, BAR, BLANK, CARET


def row_words(cells):
    if len(cells) == 0:
        return [CARET]
    words = cell_words(cells[0])
    for cell in cells[1:]:
        words.extend([BLANK, BAR, BLANK])
        words.extend(cell_words(cell))
    return words


def split_at_bars(words):
    pieces = [[]]
    behind_backslash = False
    for byte in words:
        if byte == BAR and not behind_backslash:
            pieces.append([])
        else:
            pieces[-1].append(byte)
        behind_backslash = byte == BACKSLASH and not behind_backslash
    return pieces


# The piece without the blanks that belong to the bars beside it, or None if such a blank is missing.
def without_bar_blanks(piece, bar_before, bar_behind):
    rest = piece
    if bar_before:
        if rest[:1] != [BLANK]:
            return None
        rest = rest[1:]
    if bar_behind:
        if rest[-1:] != [BLANK]:
            return None
        rest = rest[:-1]
    return rest


# The cells of the row whose line the words are, or None if they are no row's.
def row_written(words):
    if words == [CARET]:
        return []
    pieces = split_at_bars(words)
    cells = []
    for place, piece in enumerate(pieces):
        rest = without_bar_blanks(piece, place > 0, place < len(pieces) - 1)
        if rest is None:
            return None
        cell = cell_written(rest)
        if cell is None:
            return None
        cells.append(cell)
    return cells


def reaches_below(cell, row):
    return cell.row + cell.down - 1 > row


# Looking at this one row is enough: a cell that covers a lower place covers the place above it in this row too.
def lay_cell(over, row, cell):
    if None not in over:
        return False
    column = over.index(None)
    # Beyond the last column the slice is too short, so it is not the same either.
    if over[column:column + cell.right] != [None] * cell.right:
        return False
    for covered in range(column, column + cell.right):
        over[covered] = cell
    cell.row = row
    cell.column = column
    return True


# The cell over each column of the row (None where it's free), or None if one of the cells can't be laid.
# above: the same of the row before.
def lay_row(above, row, cells):
    over = [cell if cell is not None and reaches_below(cell, row - 1) else None for cell in above]
    for cell in cells:
        if not lay_cell(over, row, cell):
            return None
    return over
