"""Makes plans and lists of routes up, by a source of chance that is handed in."""

from tests.helper import HIGHEST
from tests.reference import DIGITS

# What a yard is laid of: the kind, the ends that come from what is laid, the ends that go on.
PIECES = [
    ("plain", [0], [1]), ("point", [0], [1, 2]), ("point", [0], [2, 1]), ("point", [1, 2], [0]), ("point", [2, 1], [0]),
    ("cross", [0, 2], [1, 3]), ("cross", [0, 3], [1, 2])]


def made_plan(chance, sections, points):
    """Lines of a plan with so many sections: most ends are joined, signals where they may be."""
    kinds = ["plain"] * (10 - points) + ["point"] * points + ["cross"]
    drawn = [(chance.choice(kinds), f"N{k}") for k in range(sections)]
    lines = [f"{kind} {name}" for kind, name in drawn]
    ends = [(kind, f"{name}.{digit}") for kind, name in drawn for digit in DIGITS[kind]]
    chance.shuffle(ends)
    signals = []
    while len(ends) > 1:
        pair = [ends.pop(), ends.pop()]
        if chance.random() < 0.9:
            lines.append(f"join {pair[0][1]} {pair[1][1]}")
            signals += [f"signal {word}" for kind, word in pair if kind == "plain" and chance.random() < 0.4]
        else:
            lines += [f"border {word}" for kind, word in pair if kind == "plain" and chance.random() < 0.5]
    chance.shuffle(signals)
    return lines + signals[:12]


def made_yard(chance):
    """Lines of a plan whose tracks go from one side to the other, so that it has many routes."""
    sections, joins, ahead = [], [], []

    def lay(kind, entries, exits):
        name = f"N{len(sections)}"
        sections.append((kind, name))
        for digit in entries:
            joins.append((ahead.pop(chance.randrange(len(ahead))), f"{name}.{digit}"))
        ahead.extend(f"{name}.{digit}" for digit in exits)

    for k in range(chance.randrange(1, 5)):
        lay("plain", [], [1])
    while len(sections) + len(ahead) < 15:
        piece = chance.choice(PIECES)
        if len(piece[1]) <= len(ahead):
            lay(*piece)
    while ahead and len(sections) < 16:
        lay("plain", [0], [])
    plains = [name for kind, name in sections if kind == "plain"]
    signals = [end for pair in joins for end in pair if end.split(".")[0] in plains and chance.random() < 0.7]
    for row in [sections, joins, signals]:
        chance.shuffle(row)
    return ([f"{kind} {name}" for kind, name in sections] + [f"join {one} {other}" for one, other in joins] +
            [f"signal {end}" for end in signals[:12]])


def made_list(chance, count):
    """Numbers of routes, of which there are so many; seldom one that is none's."""
    numbers = [chance.randrange(count) for k in range(chance.choice([0, 1, 2, 3, 5, 12, 13, 40]))] if count else []
    if chance.random() < 0.1:
        numbers.insert(chance.randrange(len(numbers) + 1), chance.choice([count, HIGHEST]))
    return numbers


def made_rising(chance, count):
    """At most 12 rising numbers of routes; seldom more, one that is none's, or not rising."""
    size = chance.choice([0, 1, 3, 6, 9, 11, 12, 12, 12, 12, 12, 13])
    numbers = sorted(chance.sample(range(count), min(size, count)))
    if chance.random() < 0.1:
        numbers = sorted(numbers[:-1] + [chance.choice([count, HIGHEST])])
    if chance.random() < 0.1:
        numbers.append(chance.choice(numbers + [0]))
    return numbers
