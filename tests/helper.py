"""Lays out calls for yardplans.box.answers and takes its answers apart."""

from yardplans.box import answers

PRINT = [1]
COUNTS = [4]
ROUTES = [5]


def text_of(*lines):
    """The bytes of a text of these lines, each ended."""
    return [byte for line in lines for byte in (line + "\n").encode("latin-1")]


def read_bytes(text):
    return [0, len(text)] + list(text)


def read(*lines):
    return read_bytes(text_of(*lines))


def section(number):
    return [2, number]


def end(number, digit):
    return [3, number, digit]


def ask(*calls):
    """The answers of these calls on one new object, a list each."""
    told = answers([number for call in calls for number in call])
    parts = []
    place = 0
    while place < len(told):
        size = told[place]
        parts.append(told[place + 1:place + 1 + size])
        place += 1 + size
    return parts


def printed(*lines):
    """The lines that are printed of the plan of these lines."""
    told = ask(read(*lines), PRINT)
    text = bytes(told[1][1:])
    assert told[0][0] >= 0, told[0]
    assert told[1][0] == len(text), told[1]
    return text.decode("ascii").splitlines()


def diamonds(count):
    """Lines of 2 * count points: behind each other, pairs that give two ways each.

    Their open ends are F0.0 and G<count - 1>.0.
    """
    lines = []
    for k in range(count):
        lines += [f"point F{k}", f"point G{k}"]
        lines += [f"join F{k}.1 G{k}.1", f"join F{k}.2 G{k}.2"]
        if k > 0:
            lines.append(f"join G{k - 1}.0 F{k}.0")
    return lines


def diamond_yard(count):
    """A yard with 2 ** count ways from the signal at A.1 to B, whose other end is open."""
    return diamonds(count) + [
        "plain A", "plain B", "join A.1 F0.0", f"join G{count - 1}.0 B.0", "signal A.1"]
