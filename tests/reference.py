"""The document's words once more, written another way, for tests to compare with."""

import re

NAME = "[A-Z][A-Z0-9]{0,3}"
END = f"({NAME})[.]([0-3])"
SECTION = re.compile(f"(plain|point|cross) ({NAME})")
ENDS = re.compile(f"(?:(join) {END} {END}|(border|signal) {END})")
PASSAGES = {
    "plain": [(0, 1), (1, 0)],
    "point": [(0, 1), (0, 2), (1, 0), (2, 0)],
    "cross": [(0, 1), (1, 0), (2, 3), (3, 2)],
}
DIGITS = {"plain": "01", "point": "012", "cross": "0123"}


class Yard:
    """A plan; ends are told as texts, like A.1."""

    def __init__(self):
        self.kinds = {}
        self.pairs = []
        self.borders = []
        self.signals = []

    def rank(self, end):
        name, digit = end.split(".")
        return (list(self.kinds).index(name), int(digit))

    def exists(self, end):
        name, digit = end.split(".")
        return name in self.kinds and digit in DIGITS[self.kinds[name]]

    def partner(self, end):
        for pair in self.pairs:
            if end in pair:
                return pair[1 - pair.index(end)]
        return None

    def at_plain(self, end):
        return self.kinds[end.split(".")[0]] == "plain"

    def faults(self, line):
        """All kinds of faults that are so of the line (7 and 6 only where they can be asked)."""
        match = SECTION.fullmatch(line)
        if match:
            return [2] * (match[2] in self.kinds) + [7] * (len(self.kinds) >= 16)
        match = ENDS.fullmatch(line)
        if not match:
            return [1]
        word, *ends = line.split(" ")
        if not all(self.exists(end) for end in ends):
            return [3]
        kinds = []
        if word == "signal":
            kinds += [4] * (ends[0] in self.signals)
            kinds += [5] * (self.partner(ends[0]) is None)
            kinds += [7] * (len(self.signals) >= 12)
        else:
            kinds += [4] * any(self.partner(end) is not None or end in self.borders for end in ends)
            kinds += [4] * (len(ends) == 2 and ends[0] == ends[1])
        if word != "join":
            kinds += [6] * (not self.at_plain(ends[0]))
        return kinds

    def take(self, line):
        word, *rest = line.split(" ")
        if word == "join":
            self.pairs.append(rest)
        elif word == "border":
            self.borders += rest
        elif word == "signal":
            self.signals += rest
        else:
            self.kinds[rest[0]] = word

    def form(self):
        """The lines of the one form."""
        lines = [f"{kind} {name}" for name, kind in self.kinds.items()]
        pairs = [sorted(pair, key=self.rank) for pair in self.pairs]
        lines += [f"join {low} {high}" for low, high in sorted(pairs, key=lambda pair: self.rank(pair[0]))]
        lines += [f"border {end}" for end in sorted(self.borders, key=self.rank)]
        return lines + [f"signal {end}" for end in sorted(self.signals, key=self.rank)]

    def stops(self, end):
        return self.at_plain(end) and (end in self.signals or end in self.borders or self.partner(end) is None)

    def count_from(self, end, been):
        """How many routes go on from an end that is left, after these sections."""
        entered = self.partner(end)
        if entered is None:
            return 0
        name, digit = entered.split(".")
        if name in been:
            return 0
        total = 0
        for come, leave in PASSAGES[self.kinds[name]]:
            if come == int(digit):
                left = f"{name}.{leave}"
                total += 1 if self.stops(left) else self.count_from(left, been | {name})
        return total

    def routes(self):
        return sum(self.count_from(end, {end.split(".")[0]}) for end in self.signals)


def read_reference(text):
    """The yard and None, or None and the first fault, of a text."""
    yard = Yard()
    lines = text.split("\n")
    for number, line in enumerate(lines):
        if number == len(lines) - 1:
            return (yard, None) if line == "" else (None, [number, 1])
        kinds = yard.faults(line)
        if kinds:
            return None, [number, min(kinds)]
        yard.take(line)
