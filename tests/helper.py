"""Lays out calls for yardplans.box.answers and takes its answers apart."""

from yardplans.box import answers

HIGHEST = 4294967295
PRINT = [1]
COUNTS = [4]
ROUTES = [5]


def text_of(*lines):
    """The bytes of a text of these lines, each ended."""
    return [byte for line in lines for byte in (line + "\n").encode("latin-1")]


def read_bytes(text):
    return [0, len(text)] + list(text)


def read(*lines):
    return read_bytes(text_of(*lines))


def section(number):
    return [2, number]


def end(number, digit):
    return [3, number, digit]


def route(number):
    return [6, number]


def points(number):
    return [7, number]


def conflict(j, k):
    return [8, j, k]


def starting(signal):
    """The call from, whose name is a word of Python's own."""
    return [9, signal]


def together(*numbers):
    return [10, len(numbers), *numbers]


def most(*numbers):
    return [11, len(numbers), *numbers]


def ask(*calls):
    """The answers of these calls on one new object, a list each."""
    told = answers([number for call in calls for number in call])
    parts = []
    place = 0
    while place < len(told):
        size = told[place]
        parts.append(told[place + 1:place + 1 + size])
        place += 1 + size
    return parts


def printed(*lines):
    """The lines that are printed of the plan of these lines."""
    told = ask(read(*lines), PRINT)
    text = bytes(told[1][1:])
    assert told[0][0] >= 0, told[0]
    assert told[1][0] == len(text), told[1]
    return text.decode("ascii").splitlines()


def diamonds(count):
    """Lines of 2 * count points: behind each other, pairs that give two ways each.

    Their open ends are F0.0 and G<count - 1>.0.
    """
    lines = []
    for k in range(count):
        lines += [f"point F{k}", f"point G{k}"]
        lines += [f"join F{k}.1 G{k}.1", f"join F{k}.2 G{k}.2"]
        if k > 0:
            lines.append(f"join G{k - 1}.0 F{k}.0")
    return lines


def diamond_yard(count):
    """A yard with 2 ** count ways from the signal at A.1 to B, whose other end is open."""
    return diamonds(count) + [
        "plain A", "plain B", "join A.1 F0.0", f"join G{count - 1}.0 B.0", "signal A.1"]


def more_than_64():
    """Calls that all answer -9 behind a read of a plan with more than 64 routes, right and wrong ones."""
    few, many = [0, 1, 2], list(range(13))
    return [ROUTES, route(0), route(HIGHEST), points(0), points(HIGHEST), conflict(0, 0), conflict(HIGHEST, 0),
            conflict(0, HIGHEST), starting(0), starting(HIGHEST), together(), together(*few), together(HIGHEST),
            most(), most(*few), most(HIGHEST), most(*many), most(1, 0), most(1, 1), most(HIGHEST, 0)]


# A0 to P2 to C4 above, B1 to Q3 to D5 below, and from P to Q; its routes are
# 0: P C, 1: P Q D (of A's signal); 2: Q D (of B's); 3: P A (of C's); 4: Q B, 5: Q P A (of D's).
LADDER = [
    "plain A", "plain B", "point P", "point Q", "plain C", "plain D",
    "join A.1 P.0", "join B.1 Q.1", "join P.1 C.0", "join P.2 Q.2", "join Q.0 D.0",
    "signal D.0", "signal C.0", "signal B.1", "signal A.1"]

# Tracks 0 and 3 go across 1 and 2; each has one route, of its number.
GRID = [
    "plain S0", "plain S1", "plain S2", "plain S3", "plain T0", "plain T1", "plain T2", "plain T3",
    "cross X01", "cross X02", "cross X31", "cross X32",
    "join S0.1 X01.0", "join X01.1 X02.0", "join X02.1 T0.0",
    "join S3.1 X31.0", "join X31.1 X32.0", "join X32.1 T3.0",
    "join S1.1 X01.2", "join X01.3 X31.2", "join X31.3 T1.0",
    "join S2.1 X02.2", "join X02.3 X32.2", "join X32.3 T2.0",
    "signal S0.1", "signal S1.1", "signal S2.1", "signal S3.1"]
