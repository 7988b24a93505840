"""Calls and texts for the tests, and the answers taken apart call by call."""

from spantables.desk import answers

FAR = 10 ** 18

EXAMPLE = (
    "@table 3",
    "@head",
    "^2x1 Name | ^1x2 Sold",
    "1999 | 2000",
    "@group north",
    "a\\|b | 1 | ^2x1 2",
    "c | 3",
)


def raw(words):
    return list(words.encode("latin-1"))


def text(*lines):
    return raw("".join(line + "\n" for line in lines))


def read_raw(given):
    return [0, len(given)] + list(given)


def read(*lines):
    return read_raw(text(*lines))


def show():
    return [1]


def cell(row, column):
    return [2, row, column]


def given_text(words):
    given = raw(words) if isinstance(words, str) else list(words)
    return [len(given)] + given


def put(row, column, words):
    return [3, row, column] + given_text(words)


def nth(k):
    return [4, k]


def row(number):
    return [5, number]


def part(i):
    return [6, i]


def name(i, words):
    return [7, i] + given_text(words)


def whole(row, column, down, right):
    return [8, row, column, down, right]


def around(row, column, down, right):
    return [9, row, column, down, right]


def beside(row, column, side):
    return [10, row, column, side]


def size():
    return [11]


def shown(given):
    return [len(given)] + list(given)


def told(first_row, first_column, down, right, words):
    return [first_row, first_column, down, right] + shown(raw(words))


def told_part(kind, first_row, rows, words):
    return [kind, first_row, rows] + shown(raw(words))


def ask(*calls):
    """What each call answers, one list for each."""
    handed = [number for call in calls for number in call]
    before = list(handed)
    flat = answers(handed)
    if handed != before:
        raise AssertionError("the list that was handed in was changed")
    if type(flat) is not list or any(type(number) is not int for number in flat):
        raise AssertionError("not a list of whole numbers")
    found = []
    place = 0
    while place < len(flat):
        count = flat[place]
        found.append(flat[place + 1:place + 1 + count])
        if count < 1 or len(found[-1]) != count:
            raise AssertionError("a count that is not how many numbers follow")
        place += 1 + count
    if len(found) != len(calls):
        raise AssertionError(f"{len(calls)} calls, but {len(found)} answers")
    return found


def ask_last(*calls):
    return ask(*calls)[-1]


def whole_state(rows, columns, cells):
    """Calls that together tell all that an object of this size holds."""
    calls = [show(), size()]
    calls.extend(row(number) for number in range(-1, rows + 1))
    calls.extend(part(number) for number in range(-1, 15))
    calls.extend(nth(number) for number in range(-1, cells + 1))
    calls.extend(cell(r, c) for r in range(rows) for c in range(columns))
    return calls
