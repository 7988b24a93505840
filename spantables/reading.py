"""Reading a table's text: the table, or the first line with a fault and its first reason."""

from spantables.parts import part_written
from spantables.rows import row_written
from spantables.signs import AT, LINE_END, are_signs
from spantables.tables import MOST_COLUMNS, Table, table_words

NO_FAULT = 0
NOT_SIGNS = 1
NOT_KNOWN = 2
NOT_IN_ORDER = 3
NOT_A_ROW = 4
NO_ROOM = 5
NOT_LAID = 6
LEFT_FREE = 7
NOT_FINISHED = 8
NO_PART = 9


# Each line with the byte that ends it, so that a last line without one can be told from the others.
def lines_of(text):
    lines = [[]]
    for byte in text:
        lines[-1].append(byte)
        if byte == LINE_END:
            lines.append([])
    if len(lines[-1]) == 0:
        lines.pop()
    return lines


class Reading:
    def __init__(self):
        self.line = 0
        self.reason = NO_FAULT
        # None until the first line has told how many columns there are.
        self.table = None

    def take_line(self, line):
        self.line += 1
        self.reason = self.line_reason(line)

    def take_end(self):
        self.line += 1
        self.reason = self.end_reason()

    def line_reason(self, line):
        words = line[:-1]
        if line[-1] != LINE_END or not are_signs(words):
            return NOT_SIGNS
        if self.table is None:
            return self.first_reason(words)
        if words[:1] == [AT]:
            return self.part_reason(words)
        return self.row_reason(words)

    def first_reason(self, words):
        for columns in range(1, MOST_COLUMNS + 1):
            if words == table_words(columns):
                self.table = Table(columns)
                return NO_FAULT
        return NOT_KNOWN

    def part_reason(self, words):
        part = part_written(words)
        if part is None:
            return NOT_KNOWN
        if not self.table.may_begin(part):
            return NOT_IN_ORDER
        if len(self.table.parts) > 0 and not self.table.may_end_part():
            return NOT_FINISHED
        self.table.begin_part(part)
        return NO_FAULT

    def row_reason(self, words):
        if len(self.table.parts) == 0:
            return NOT_KNOWN
        cells = row_written(words)
        if cells is None:
            return NOT_A_ROW
        if not self.table.has_room():
            return NO_ROOM
        cover = self.table.lay_next(cells)
        if cover is None:
            return NOT_LAID
        if None in cover:
            return LEFT_FREE
        self.table.add_row(cells, cover)
        return NO_FAULT

    def end_reason(self):
        if self.table is None:
            return NOT_KNOWN
        if len(self.table.parts) == 0:
            return NO_PART
        if not self.table.may_end_part():
            return NOT_FINISHED
        return NO_FAULT


# What has been read counts only if the reason is NO_FAULT.
def read_text(text):
    reading = Reading()
    for line in lines_of(text):
        reading.take_line(line)
        if reading.reason != NO_FAULT:
            return reading
    reading.take_end()
    return reading
