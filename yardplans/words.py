"""Words of a plan's text, as lists of bytes."""

LINE_END = 10
BLANK = 32
DOT = 46
DIGIT_ZERO = 48

SECTION_WORDS = ("plain", "point", "cross")
LONGEST_NAME = 4


def codes(text):
    """The bytes of a text."""
    return [ord(sign) for sign in text]


def parted(row, mark):
    """The parts of a row before, between and behind the marks in it."""
    parts = [[]]
    for number in row:
        if number == mark:
            parts.append([])
        else:
            parts[-1].append(number)
    return parts


def is_capital(byte):
    """Whether the byte is a letter from A to Z."""
    return ord("A") <= byte <= ord("Z")


def is_digit(byte, highest):
    """Whether the byte is a digit from 0 to the highest."""
    return DIGIT_ZERO <= byte <= DIGIT_ZERO + highest


def is_name(word):
    """Whether the word may be a section's name."""
    if not 1 <= len(word) <= LONGEST_NAME:
        return False
    return is_capital(word[0]) and all([is_capital(byte) or is_digit(byte, 9) for byte in word])


def is_end(word):
    """Whether the word has the form of an end: a name, a point, a digit from 0 to 3."""
    return is_name(word[:-2]) and word[-2] == DOT and is_digit(word[-1], 3)
