"""The desk: takes a list of calls on one new object, and gives back their answers."""

from spantables.beside import cells_beside, is_side
from spantables.cells import is_cell_text
from spantables.parts import GROUP, is_group_name
from spantables.reading import NO_FAULT, read_text
from spantables.rectangles import Rectangle, is_whole, lies_in, whole_around
from spantables.signs import bytes_of
from spantables.tables import table_text

NEW_TEXT = "@table 1\n@group\n\n"
BAD_TEXT = -1
NOT_THERE = -2
NO_GROUP = -3
NO_SIDE = -3


class Desk:
    def __init__(self):
        self.table = read_text(bytes_of(NEW_TEXT)).table


class Feed:
    def __init__(self, numbers):
        self.numbers = numbers
        self.place = 0

    def has_more(self):
        return self.place < len(self.numbers)

    def take_number(self):
        number = self.numbers[self.place]
        self.place += 1
        return number

    def take_text(self):
        length = self.take_number()
        text = self.numbers[self.place:self.place + length]
        self.place += length
        return text


def counted(numbers):
    return [len(numbers)] + numbers


def told_cell(cell):
    return [cell.row, cell.column, cell.down, cell.right] + counted(cell.text)


def take_cell(desk, feed):
    row = feed.take_number()
    column = feed.take_number()
    return desk.table.cell_at(row, column)


def take_part(desk, feed):
    return desk.table.part_at(feed.take_number())


# The rectangle, or None if it isn't all in the table.
def take_rectangle(desk, feed):
    row = feed.take_number()
    column = feed.take_number()
    down = feed.take_number()
    right = feed.take_number()
    rectangle = Rectangle(row, column, down, right)
    return rectangle if lies_in(rectangle, desk.table) else None


def answer_read(desk, feed):
    reading = read_text(feed.take_text())
    if reading.reason != NO_FAULT:
        return [reading.line, reading.reason]
    desk.table = reading.table
    return [0, len(desk.table.rows)]


def answer_show(desk, feed):
    return counted(table_text(desk.table))


def answer_cell(desk, feed):
    cell = take_cell(desk, feed)
    if cell is None:
        return [NOT_THERE]
    return told_cell(cell)


def answer_set(desk, feed):
    cell = take_cell(desk, feed)
    text = feed.take_text()
    if cell is None:
        return [NOT_THERE]
    if not is_cell_text(text):
        return [BAD_TEXT]
    changed = cell.text != text
    cell.text = text
    return [1 if changed else 0]


def answer_nth(desk, feed):
    number = feed.take_number()
    ordered = desk.table.ordered_cells()
    if not 0 <= number < len(ordered):
        return [NOT_THERE]
    return told_cell(ordered[number])


def answer_row(desk, feed):
    row = feed.take_number()
    if not desk.table.has_row(row):
        return [NOT_THERE]
    columns = [cell.column for cell in desk.table.rows[row]]
    return [desk.table.part_number(row)] + counted(columns)


def answer_part(desk, feed):
    part = take_part(desk, feed)
    if part is None:
        return [NOT_THERE]
    return [part.kind, part.first_row, part.row_count] + counted(part.name)


def answer_name(desk, feed):
    part = take_part(desk, feed)
    name = feed.take_text()
    if part is None:
        return [NOT_THERE]
    if part.kind != GROUP:
        return [NO_GROUP]
    if not is_group_name(name):
        return [BAD_TEXT]
    changed = part.name != name
    part.name = name
    return [1 if changed else 0]


def answer_whole(desk, feed):
    rectangle = take_rectangle(desk, feed)
    if rectangle is None:
        return [NOT_THERE]
    return [1 if is_whole(desk.table, rectangle) else 0]


def answer_around(desk, feed):
    rectangle = take_rectangle(desk, feed)
    if rectangle is None:
        return [NOT_THERE]
    outer = whole_around(desk.table, rectangle)
    return [outer.row, outer.column, outer.down, outer.right]


def answer_beside(desk, feed):
    cell = take_cell(desk, feed)
    side = feed.take_number()
    if cell is None:
        return [NOT_THERE]
    if not is_side(side):
        return [NO_SIDE]
    found = cells_beside(desk.table, cell, side)
    told = [len(found)]
    for other in found:
        told.extend([other.row, other.column])
    return told


def answer_size(desk, feed):
    table = desk.table
    return [table.columns, len(table.rows), len(table.parts), len(table.ordered_cells())]


ANSWERERS = {
    0: answer_read,
    1: answer_show,
    2: answer_cell,
    3: answer_set,
    4: answer_nth,
    5: answer_row,
    6: answer_part,
    7: answer_name,
    8: answer_whole,
    9: answer_around,
    10: answer_beside,
    11: answer_size,
}


def answers(calls):
    desk = Desk()
    feed = Feed(calls)
    told = []
    while feed.has_more():
        answerer = ANSWERERS[feed.take_number()]
        told.extend(counted(answerer(desk, feed)))
    return told
