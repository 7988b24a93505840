"""The program against a second reading of the document, made by other means: patterns, and a board of all places."""

import random
import re
import unittest

from helper import (
    FAR, around, ask, beside, cell, name, nth, part, put, read_raw, row, show, shown, size, whole,
)

MARKED = r"(?:[^|^@\\]|\\[|^@\\])"
CELL = re.compile(rf"(?:\^([1-9][0-9]?)x([1-9][0-9]?)(?: (?=.)({MARKED}*))?|({MARKED}*))", re.DOTALL)
NAME = re.compile(r"@group(?: ([^|^@\\ ](?:[^|^@\\]{0,18}[^|^@\\ ])?))?")


def model_text_is_right(words):
    return re.fullmatch(r"(?:[!-~](?:[ -~]{0,58}[!-~])?)?", words) is not None and "\n" not in words


def model_cells(line):
    """Each cell as (down, right, text); None if it's not a row's line."""
    if line == "^":
        return []
    cells = []
    place = 0
    while True:
        # The longest match is tried first; a shorter one must end where a separator stands.
        for end in range(len(line), place - 1, -1):
            if end < len(line) and line[end:end + 3] != " | ":
                continue
            found = CELL.fullmatch(line, place, end)
            if found:
                break
        else:
            return None
        down, right = int(found[1] or 1), int(found[2] or 1)
        words = re.sub(r"\\(.)", r"\1", found[3] or found[4] or "")
        if found[1] and (down, right) == (1, 1) or down > 30 or right > 12 or not model_text_is_right(words):
            return None
        cells.append((down, right, words))
        if end == len(line):
            return cells
        place = end + 3


class Model:
    def __init__(self):
        self.take(b"@table 1\n@group\n\n")

    def take(self, given):
        """The answer of read."""
        board = {}
        cells = []
        parts = []
        rows = 0
        columns = None
        lines = given.decode("latin-1").split("\n")
        unended = lines.pop()
        for number, line in enumerate(lines + ([unended] if unended else []), start=1):
            if number > len(lines) or re.search(r"[^ -~]", line):
                return [number, 1]
            if number == 1:
                if line not in [f"@table {k}" for k in range(1, 13)]:
                    return [1, 2]
                columns = int(line[7:])
            elif line.startswith("@"):
                group = NAME.fullmatch(line)
                if line not in ("@head", "@foot") and not group:
                    return [number, 2]
                kind = "group" if group else line[1:]
                earlier = [part[0] for part in parts]
                if kind == "head" and parts or "foot" in earlier or kind == "group" and earlier.count("group") == 12:
                    return [number, 3]
                if parts and self.unfinished(parts, board, rows):
                    return [number, 8]
                parts.append([kind, rows, (group[1] or "") if group else ""])
            else:
                if not parts:
                    return [number, 2]
                found = model_cells(line)
                if found is None:
                    return [number, 4]
                if rows == 60 or rows - parts[-1][1] == 30:
                    return [number, 5]
                for down, right, words in found:
                    free = [c for c in range(columns) if (rows, c) not in board]
                    if not free:
                        return [number, 6]
                    places = [(rows + d, free[0] + r) for d in range(down) for r in range(right)]
                    if any(place in board or place[1] >= columns for place in places):
                        return [number, 6]
                    for place in places:
                        board[place] = len(cells)
                    cells.append([rows, free[0], down, right, words])
                if any((rows, c) not in board for c in range(columns)):
                    return [number, 7]
                rows += 1
        if columns is None:
            return [1, 2]
        if not parts:
            return [len(lines) + 1, 9]
        if self.unfinished(parts, board, rows):
            return [len(lines) + 1, 8]
        self.board, self.cells, self.parts, self.rows, self.columns = board, cells, parts, rows, columns
        return [0, rows]

    @staticmethod
    def unfinished(parts, board, rows):
        return parts[-1][1] == rows or any(place[0] >= rows for place in board)

    def tell(self, found):
        return found[:4] + shown(found[4].encode())

    def cell(self, r, c):
        inside = 0 <= r < self.rows and 0 <= c < self.columns
        return self.tell(self.cells[self.board[r, c]]) if inside else [-2]

    def put(self, r, c, words):
        if not (0 <= r < self.rows and 0 <= c < self.columns):
            return [-2]
        if not model_text_is_right(words):
            return [-1]
        found = self.cells[self.board[r, c]]
        changed = found[4] != words
        found[4] = words
        return [int(changed)]

    def nth(self, k):
        return self.tell(sorted(self.cells)[k]) if 0 <= k < len(self.cells) else [-2]

    def row(self, r):
        if not 0 <= r < self.rows:
            return [-2]
        part = max(k for k, found in enumerate(self.parts) if found[1] <= r)
        return [part] + shown(sorted(found[1] for found in self.cells if found[0] == r))

    def part(self, i):
        if not 0 <= i < len(self.parts):
            return [-2]
        kind, first, words = self.parts[i]
        behind = self.parts[i + 1][1] if i + 1 < len(self.parts) else self.rows
        return [("head", "group", "foot").index(kind), first, behind - first] + shown(words.encode())

    def name(self, i, words):
        if not 0 <= i < len(self.parts):
            return [-2]
        if self.parts[i][0] != "group":
            return [-3]
        if words and not (NAME.fullmatch("@group " + words) and re.fullmatch("[ -~]+", words)):
            return [-1]
        changed = self.parts[i][2] != words
        self.parts[i][2] = words
        return [int(changed)]

    def places(self, r, c, down, right):
        """All places of the rectangle, or None if it's none of this table."""
        fits = r >= 0 and c >= 0 and down >= 1 and right >= 1 and r + down <= self.rows and c + right <= self.columns
        return {(y, x) for y in range(r, r + down) for x in range(c, c + right)} if fits else None

    def whole(self, *rectangle):
        inside = self.places(*rectangle)
        if inside is None:
            return [-2]
        cut = {self.board[place] for place in inside} & {self.board[place] for place in set(self.board) - inside}
        return [int(not cut)]

    def around(self, r, c, down, right):
        """A row or a column more wherever a cell goes through the edge."""
        if self.places(r, c, down, right) is None:
            return [-2]
        top, left, bottom, end = r, c, r + down, c + right
        before = None
        while before != (top, left, bottom, end):
            before = (top, left, bottom, end)
            across, along = range(left, end), range(top, bottom)
            if top > 0 and any(self.board[top, x] == self.board[top - 1, x] for x in across):
                top -= 1
            elif bottom < self.rows and any(self.board[bottom - 1, x] == self.board[bottom, x] for x in across):
                bottom += 1
            elif left > 0 and any(self.board[y, left] == self.board[y, left - 1] for y in along):
                left -= 1
            elif end < self.columns and any(self.board[y, end - 1] == self.board[y, end] for y in along):
                end += 1
        return [top, left, bottom - top, end - left]

    def beside(self, r, c, side):
        if (r, c) not in self.board:
            return [-2]
        if side not in (0, 1, 2, 3):
            return [-3]
        me = self.board[r, c]
        y, x = ((-1, 0), (0, -1), (1, 0), (0, 1))[side]
        steps = {self.board.get((place[0] + y, place[1] + x)) for place in self.board if self.board[place] == me}
        found = sorted(self.cells[other][:2] for other in steps - {None, me})
        return [len(found)] + [number for place in found for number in place]

    def size(self):
        return [self.columns, self.rows, len(self.parts), len(self.cells)]

    def show(self):
        lines = [f"@table {self.columns}"]
        for i, (kind, first, words) in enumerate(self.parts):
            lines.append(f"@{kind} {words}".rstrip(" "))
            for r in range(first, first + self.part(i)[2]):
                begun = sorted(found for found in self.cells if found[0] == r)
                lines.append(" | ".join(write_cell(*found[2:]) for found in begun) if begun else "^")
        return shown("".join(line + "\n" for line in lines).encode())


def random_words(chance):
    words = "".join(chance.choice("ab |^@\\x12~") for _ in range(chance.choice((0, 0, 1, 2, 3, 7, 60))))
    return words.strip(" ")


def write_cell(down, right, words):
    marked = re.sub(r"[|^@\\]", r"\\\g<0>", words)
    if (down, right) == (1, 1):
        return marked
    return f"^{down}x{right}" + (" " + marked if marked else "")


def random_part(chance, columns, height):
    """Lines of a part's rows without a fault."""
    taken = set()
    lines = []
    for r in range(height):
        line = []
        for c in range(columns):
            if (r, c) in taken:
                continue
            room = 1
            while c + room < columns and (r, c + room) not in taken:
                room += 1
            down = chance.choice((1, 1, 1, chance.randint(1, height - r)))
            right = chance.choice((1, 1, chance.randint(1, room)))
            taken.update((r + d, c + e) for d in range(down) for e in range(right))
            line.append(write_cell(down, right, random_words(chance)))
        lines.append(" | ".join(line) if line else "^")
    return lines


def random_table(chance):
    columns = chance.choice((1, 2, 3, 4, 12))
    heads = ["@head"] * chance.randint(0, 1)
    groups = [chance.choice(("@group", "@group a b", "@group " + "n" * 20)) for _ in range(chance.choice((0, 1, 2, 3, 12)))]
    feet = ["@foot"] * chance.randint(0, 1)
    lines = [f"@table {columns}"]
    for part in (heads + groups + feet) or ["@group"]:
        lines.append(part)
        lines.extend(random_part(chance, columns, chance.choice((1, 1, 2, 3, 4))))
    return "".join(line + "\n" for line in lines)


def spoil(chance, given):
    """The same text with a small change that may be a fault."""
    place = chance.randint(0, len(given))
    how = chance.randint(0, 5)
    if how == 0:
        return given[:place] + given[place + 1:]
    if how == 1:
        return given[:place] + chance.choice("\n |^@\\x1239a\t\x7f") + given[place:]
    if how == 2:
        return given[:place] + chance.choice("\n |^@\\x1239a\t\x7f") + given[place + 1:]
    lines = given.splitlines(keepends=True)
    here = chance.randrange(len(lines))
    if how == 3:
        return "".join(lines[:here] + lines[here + 1:])
    if how == 4:
        return "".join(lines[:here] + [lines[here]] + lines[here:])
    other = chance.choice(("@head\n", "@group\n", "@foot\n", "^\n", "\n", "^2x1\n", "a | b\n", "^1x2 c\n"))
    return "".join(lines[:here] + [other] + lines[here:])


def random_number(chance, behind):
    """Mostly one from 0 to behind, less 1."""
    if chance.random() < 0.9:
        return chance.randrange(behind)
    return chance.choice((-1, behind, -FAR, FAR))


def random_length(chance, first, behind):
    if not 0 <= first < behind or chance.random() < 0.1:
        return chance.choice((0, -1, 1, behind, behind + 1, -FAR, FAR))
    return chance.randint(1, behind - first)


def random_call(chance, model, sort):
    """A call of this sort (none of read), and what it must answer."""
    r, c = random_number(chance, model.rows), random_number(chance, model.columns)
    rectangle = (r, c, random_length(chance, r, model.rows), random_length(chance, c, model.columns))
    i = random_number(chance, len(model.parts))
    if sort == 1:
        return show(), model.show()
    if sort == 2:
        return cell(r, c), model.cell(r, c)
    if sort == 3:
        words = chance.choice((random_words(chance), random_words(chance), "a" * 61, " a", "", "\x7f"))
        return put(r, c, words), model.put(r, c, words)
    if sort == 4:
        k = random_number(chance, len(model.cells))
        return nth(k), model.nth(k)
    if sort == 5:
        return row(r), model.row(r)
    if sort == 6:
        return part(i), model.part(i)
    if sort == 7:
        words = chance.choice(("", "a b", "north", "n" * 20, "n" * 21, " a", "a ", "a|b", "^", "@", "\\", "\x1f", "b"))
        return name(i, words), model.name(i, words)
    if sort == 8:
        return whole(*rectangle), model.whole(*rectangle)
    if sort == 9:
        return around(*rectangle), model.around(*rectangle)
    if sort == 10:
        side = random_number(chance, 4)
        return beside(r, c, side), model.beside(r, c, side)
    return size(), model.size()


class AgainstTheModel(unittest.TestCase):
    def check(self, chance, given):
        model = Model()
        data = given.encode("latin-1")
        calls = [read_raw(data)]
        expected = [model.take(data)]
        reason = expected[0][1] if expected[0][0] > 0 else 0
        if reason == 0:
            calls.append(show())
            expected.append(shown(data))
        for sort in chance.choices(range(2, 12), k=20):
            call, answer = random_call(chance, model, sort)
            calls.append(call)
            expected.append(answer)
        self.assertEqual(ask(*calls), expected, given)
        return reason

    def test_tables_without_a_fault(self):
        chance = random.Random(1)
        for _ in range(150):
            self.assertEqual(self.check(chance, random_table(chance)), 0)

    def test_spoiled_tables(self):
        chance = random.Random(2)
        reasons = {}
        for _ in range(1500):
            given = random_table(chance)
            for _ in range(chance.randint(1, 2)):
                given = spoil(chance, given) or "\n"
            reason = self.check(chance, given)
            reasons[reason] = reasons.get(reason, 0) + 1
        # Else the texts would not be worth the name of a test. (Reason 5 and 9 are tested by hand.)
        self.assertTrue({0, 1, 2, 3, 4, 6, 7, 8} <= set(reasons), reasons)

    def test_lists_of_a_hundred_mixed_calls(self):
        chance = random.Random(3)
        for _ in range(60):
            model = Model()
            calls = []
            expected = []
            left = 17000
            for _ in range(100):
                sort = chance.randrange(12)
                if sort > 0:
                    call, answer = random_call(chance, model, sort)
                else:
                    given = random_table(chance)
                    if chance.random() < 0.5:
                        given = spoil(chance, given)
                    data = given.encode("latin-1")
                    call, answer = read_raw(data), None
                    if len(call) > left:
                        call, answer = show(), model.show()
                left -= len(call)
                calls.append(call)
                expected.append(model.take(data) if answer is None else answer)
            self.assertGreaterEqual(left, 0)
            # ask sees to it that the list is as before; and the second time is as the first one.
            self.assertEqual(ask(*calls), expected)
            self.assertEqual(ask(*calls), expected)

    def test_all_rectangles_of_small_tables(self):
        chance = random.Random(4)
        for _ in range(25):
            columns = chance.randint(1, 4)
            heights = chance.choice(((4,), (2, 2), (1, 3), (5,), (2, 1, 2)))
            lines = [f"@table {columns}"]
            for height in heights:
                lines += ["@group"] + random_part(chance, columns, height)
            data = "".join(line + "\n" for line in lines).encode()
            model = Model()
            self.assertEqual(model.take(data), [0, sum(heights)])
            rectangles = [
                (r, c, down, right)
                for r in range(model.rows) for c in range(model.columns)
                for down in range(1, model.rows - r + 1) for right in range(1, model.columns - c + 1)
            ]
            places = {rectangle: model.places(*rectangle) for rectangle in rectangles}
            good = [rectangle for rectangle in rectangles if model.whole(*rectangle) == [1]]
            for start in range(0, len(rectangles), 40):
                some = rectangles[start:start + 40]
                found = ask(read_raw(data), *[whole(*one) for one in some], *[around(*one) for one in some])[1:]
                self.assertEqual(found[:len(some)], [[int(one in good)] for one in some], data)
                for one, outer in zip(some, found[len(some):]):
                    larger = [other for other in good if places[one] <= places[other]]
                    # The document's words: there is one that lies within every other one.
                    within = [other for other in larger if all(places[other] <= places[each] for each in larger)]
                    self.assertEqual([outer], [list(other) for other in within], data)
                    self.assertEqual(outer, model.around(*one), data)

    def test_rows_of_all_short_lines(self):
        for columns in (1, 2):
            for code in range(9 ** 4):
                line = "".join("a |^@\\x12"[code // 9 ** k % 9] for k in range(4)).rstrip("2")
                data = f"@table {columns}\n@group\n{line}\n".encode()
                self.assertEqual(ask(read_raw(data)), [Model().take(data)], line)


if __name__ == "__main__":
    unittest.main()
