"""The bytes that have a meaning, and the groups of bytes that the rules speak of."""

NEWLINE = 10
SPACE = 32
NUMBER_SIGN = 35
OPENING_PARENTHESIS = 40
CLOSING_PARENTHESIS = 41
STAR_SIGN = 42
HYPHEN = 45
OPENING_BRACKET = 91
BACKSLASH = 92
CLOSING_BRACKET = 93
BACKQUOTE = 96

BLANKS = (9, 13, 32)
WIDE_SPACES = (9, 10, 13, 32)


def is_sign(byte):
    """Tell whether the byte is one of the 32 signs of US-ASCII."""
    return 33 <= byte <= 47 or 58 <= byte <= 64 or 91 <= byte <= 96 or 123 <= byte <= 126


def trimmed(row):
    """Give the bytes without the blanks at both ends."""
    begin = 0
    end = len(row)
    while begin < end and row[begin] in BLANKS:
        begin += 1
    while end > begin and row[end - 1] in BLANKS:
        end -= 1
    return row[begin:end]
