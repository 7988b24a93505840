"""Cells, and their line texts."""

from spantables.signs import BACKSLASH, BLANK, CARET, bytes_of, decimal, is_mark, is_trimmed, number_written

MOST_DOWN = 30
MOST_RIGHT = 12
MOST_SIGNS = 60


class Cell:
    def __init__(self, down, right, text):
        self.down = down
        self.right = right
        self.text = text
        # A line tells no places: these two are known once the cell is laid.
        self.row = 0
        self.column = 0


def is_cell_text(text):
    return is_trimmed(text, MOST_SIGNS)


def marked_text(text):
    marked = []
    for byte in text:
        if is_mark(byte):
            marked.append(BACKSLASH)
        marked.append(byte)
    return marked


def span_words(down, right):
    return [CARET] + decimal(down) + bytes_of("x") + decimal(right)


def cell_words(cell):
    if cell.down == 1 and cell.right == 1:
        return marked_text(cell.text)
    words = span_words(cell.down, cell.right)
    if len(cell.text) == 0:
        return words
    return words + [BLANK] + marked_text(cell.text)


# The text without its backslashes, or None if the words are not how a cell's text is written.
def text_written(words):
    text = []
    behind_backslash = False
    for byte in words:
        if not behind_backslash and byte == BACKSLASH:
            behind_backslash = True
            continue
        # A mark needs a backslash, and nothing else may have one.
        if is_mark(byte) != behind_backslash:
            return None
        text.append(byte)
        behind_backslash = False
    if behind_backslash or not is_cell_text(text):
        return None
    return text


# How far down and to the right, or None.
def span_written(words):
    cross = bytes_of("x")[0]
    if cross not in words:
        return None
    place = words.index(cross)
    down = number_written(words[:place], MOST_DOWN)
    right = number_written(words[place + 1:], MOST_RIGHT)
    # A cell of one place is written by its text alone.
    if down == 0 or right == 0 or (down == 1 and right == 1):
        return None
    return (down, right)


def spanning_cell_written(words):
    end = words.index(BLANK) if BLANK in words else len(words)
    span = span_written(words[1:end])
    text = text_written(words[end + 1:])
    # The blank is there for a text's sake: it doesn't stand without one.
    lone_blank = end + 1 == len(words)
    if span is None or text is None or lone_blank:
        return None
    return Cell(span[0], span[1], text)


# The cell whose line text the words are, or None if they are no cell's.
def cell_written(words):
    if words[:1] == [CARET]:
        return spanning_cell_written(words)
    text = text_written(words)
    if text is None:
        return None
    return Cell(1, 1, text)
