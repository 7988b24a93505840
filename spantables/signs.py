"""The bytes of texts: which are signs, and how words and numbers are written in them."""

LINE_END = 10
BLANK = 32
AT = 64
BACKSLASH = 92
CARET = 94
BAR = 124
LAST_SIGN = 126


def bytes_of(words):
    return [ord(sign) for sign in words]


def decimal(number):
    return bytes_of(str(number))


# Answers 0 if it is none of these: no number in a table's text may be 0.
def number_written(digits, most):
    # Comparing with each number's one form keeps out needless zeros, and needs no limit on how many digits stand there.
    for number in range(1, most + 1):
        if digits == decimal(number):
            return number
    return 0


# The marks mean something in a line, so they stand in no name, and in a cell's line text only behind a backslash.
def is_mark(byte):
    return byte in (BAR, CARET, AT, BACKSLASH)


def are_signs(text):
    return all([BLANK <= byte <= LAST_SIGN for byte in text])


# What cells' texts and groups' names have in common.
def is_trimmed(text, most):
    return len(text) <= most and are_signs(text) and text[:1] != [BLANK] and text[-1:] != [BLANK]
