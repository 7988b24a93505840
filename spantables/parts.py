"""Parts: heads, groups and feet, and their lines."""

from spantables.signs import BLANK, bytes_of, is_mark, is_trimmed

HEAD = 0
GROUP = 1
FOOT = 2
MOST_NAME_SIGNS = 20


class Part:
    def __init__(self, kind, name):
        self.kind = kind
        self.name = name
        self.first_row = 0
        self.row_count = 0


def is_group_name(name):
    return is_trimmed(name, MOST_NAME_SIGNS) and not any([is_mark(byte) for byte in name])


def part_words(part):
    if part.kind == HEAD:
        return bytes_of("@head")
    if part.kind == FOOT:
        return bytes_of("@foot")
    words = bytes_of("@group")
    if len(part.name) == 0:
        return words
    return words + [BLANK] + part.name


# The part, still without rows, whose line the words are, or None if they are no part's.
def part_written(words):
    if words == bytes_of("@head"):
        return Part(HEAD, [])
    if words == bytes_of("@foot"):
        return Part(FOOT, [])
    if words == bytes_of("@group"):
        return Part(GROUP, [])
    opening = bytes_of("@group ")
    name = words[len(opening):]
    if words[:len(opening)] != opening or len(name) == 0 or not is_group_name(name):
        return None
    return Part(GROUP, name)
