"""The document's words once more, written another way, for tests to compare with."""

import re
from itertools import combinations

NAME = "[A-Z][A-Z0-9]{0,3}"
END = f"({NAME})[.]([0-3])"
SECTION = re.compile(f"(plain|point|cross) ({NAME})")
ENDS = re.compile(f"(?:(join) {END} {END}|(border|signal) {END})")
PASSAGES = {
    "plain": [(0, 1), (1, 0)],
    "point": [(0, 2), (0, 1), (2, 0), (1, 0)],
    "cross": [(0, 1), (1, 0), (2, 3), (3, 2)],
}
DIGITS = {"plain": "01", "point": "012", "cross": "0123"}


class Yard:
    """A plan; ends are told as texts, like A.1."""

    def __init__(self):
        self.kinds = {}
        self.pairs = []
        self.borders = []
        self.signals = []

    def rank(self, end):
        name, digit = end.split(".")
        return (list(self.kinds).index(name), int(digit))

    def exists(self, end):
        name, digit = end.split(".")
        return name in self.kinds and digit in DIGITS[self.kinds[name]]

    def partner(self, end):
        for pair in self.pairs:
            if end in pair:
                return pair[1 - pair.index(end)]
        return None

    def at_plain(self, end):
        return self.kinds[end.split(".")[0]] == "plain"

    def faults(self, line):
        """All kinds of faults that are so of the line (7 and 6 only where they can be asked)."""
        match = SECTION.fullmatch(line)
        if match:
            return [2] * (match[2] in self.kinds) + [7] * (len(self.kinds) >= 16)
        match = ENDS.fullmatch(line)
        if not match:
            return [1]
        word, *ends = line.split(" ")
        if not all(self.exists(end) for end in ends):
            return [3]
        kinds = []
        if word == "signal":
            kinds += [4] * (ends[0] in self.signals)
            kinds += [5] * (self.partner(ends[0]) is None)
            kinds += [7] * (len(self.signals) >= 12)
        else:
            kinds += [4] * any(self.partner(end) is not None or end in self.borders for end in ends)
            kinds += [4] * (len(ends) == 2 and ends[0] == ends[1])
        if word != "join":
            kinds += [6] * (not self.at_plain(ends[0]))
        return kinds

    def take(self, line):
        word, *rest = line.split(" ")
        if word == "join":
            self.pairs.append(rest)
        elif word == "border":
            self.borders += rest
        elif word == "signal":
            self.signals += rest
        else:
            self.kinds[rest[0]] = word

    def form(self):
        """The lines of the one form."""
        lines = [f"{kind} {name}" for name, kind in self.kinds.items()]
        pairs = [sorted(pair, key=self.rank) for pair in self.pairs]
        lines += [f"join {low} {high}" for low, high in sorted(pairs, key=lambda pair: self.rank(pair[0]))]
        lines += [f"border {end}" for end in sorted(self.borders, key=self.rank)]
        return lines + [f"signal {end}" for end in sorted(self.signals, key=self.rank)]

    def stops(self, end):
        return self.at_plain(end) and (end in self.signals or end in self.borders or self.partner(end) is None)

    def ways(self, end, been):
        """All ways on from an end that is left, after these sections: lists of (name, come in by, left by)."""
        entered = self.partner(end)
        if entered is None:
            return []
        name, digit = entered.split(".")
        if name in been:
            return []
        found = []
        for come, leave in PASSAGES[self.kinds[name]]:
            if come == int(digit):
                step, left = (name, come, leave), f"{name}.{leave}"
                behind = [[]] if self.stops(left) else self.ways(left, been | {name})
                found += [[step] + way for way in behind]
        return found

    def routes(self):
        """All routes, as the end of the signal and the way."""
        found = [(end, way) for end in self.signals for way in self.ways(end, {end.split(".")[0]})]
        return sorted(found, key=lambda route: (self.rank(route[0]), [leave for name, come, leave in route[1]]))


def read_reference(text):
    """The yard and None, or None and the first fault, of a text."""
    yard = Yard()
    lines = text.split("\n")
    for number, line in enumerate(lines):
        if number == len(lines) - 1:
            return (yard, None) if line == "" else (None, [number, 1])
        kinds = yard.faults(line)
        if kinds:
            return None, [number, min(kinds)]
        yard.take(line)


class Desk:
    """The object that calls are made on; a call is a list as it is laid out for answers."""

    def __init__(self):
        self.hold(Yard())

    def hold(self, yard):
        self.yard = yard
        self.names = list(yard.kinds)
        self.borders = sorted(yard.borders, key=yard.rank)
        self.signals = sorted(yard.signals, key=yard.rank)
        self.found = yard.routes()
        # The names of each route's sections.
        self.among = [{name for name, come, leave in way} for end, way in self.found]

    def answer(self, call):
        number, *given = call
        if number >= 5 and len(self.found) > 64:
            return [-9]
        does = [self.read, self.print, self.section, self.end, self.counts, self.routes, self.route, self.points,
                self.conflict, self.starting, self.together, self.most][number]
        return does(given[1:]) if number in (0, 10, 11) else does(*given)

    def read(self, text):
        if len(text) > 1024:
            return [-2]
        yard, fault = read_reference(bytes(text).decode("latin-1"))
        if fault:
            return [-6] + fault
        self.hold(yard)
        return [len(self.names)]

    def print(self):
        form = "".join(line + "\n" for line in self.yard.form()).encode("ascii")
        return [len(form), *form]

    def section(self, number):
        if number not in range(len(self.names)):
            return [-4]
        name = self.names[number]
        return [["plain", "point", "cross"].index(self.yard.kinds[name]), len(name), *name.encode("ascii")]

    def end(self, section, digit):
        if section not in range(len(self.names)) or not self.yard.exists(f"{self.names[section]}.{digit}"):
            return [-4]
        word = f"{self.names[section]}.{digit}"
        if word in self.borders:
            return [2, self.borders.index(word)]
        if self.yard.partner(word) is None:
            return [0]
        signal = self.signals.index(word) + 1 if word in self.signals else 0
        return [1, *self.yard.rank(self.yard.partner(word)), signal]

    def counts(self):
        return [len(self.names), len(self.yard.pairs), len(self.borders), len(self.signals)]

    def routes(self):
        return [len(self.found)]

    def lack(self, *numbers):
        return not set(numbers) <= set(range(len(self.found)))

    def free(self, numbers):
        """Whether no section is of two of the routes: then all together have as many as each by itself."""
        rows = [self.among[number] for number in numbers]
        return len(set().union(*rows)) == sum(map(len, rows))

    def route(self, number):
        if self.lack(number):
            return [-4]
        end, way = self.found[number]
        steps = [k for name, come, leave in way for k in (self.names.index(name), come, leave)]
        return [self.signals.index(end), len(way), *steps]

    def points(self, number):
        if self.lack(number):
            return [-4]
        lies = {(0, 1): 1, (1, 0): 1, (0, 2): 2, (2, 0): 2}
        told = [[self.names.index(name), lies[come, leave]] for name, come, leave in self.found[number][1]
                if self.yard.kinds[name] == "point"]
        return [len(told), *sum(told, [])]

    def conflict(self, j, k):
        if self.lack(j, k):
            return [-4]
        both = [name for name, come, leave in self.found[j][1] if name in self.among[k]]
        return [1, self.names.index(both[0])] if both else [0]

    def starting(self, signal):
        if signal not in range(len(self.signals)):
            return [-4]
        told = [k for k, (end, way) in enumerate(self.found) if end == self.signals[signal]]
        return [len(told), *told]

    def together(self, numbers):
        if self.lack(*numbers):
            return [-4]
        taken = []
        for number in numbers:
            taken += [number] * self.free(taken + [number])
        return [len(taken), *taken]

    def most(self, numbers):
        if len(numbers) > 12 or numbers != sorted(set(numbers)):
            return [-1]
        if self.lack(*numbers):
            return [-4]
        # Combinations come in the order in which that with the lower number, where two first differ, is first.
        for size in range(len(numbers), -1, -1):
            for part in combinations(numbers, size):
                if self.free(part):
                    return [size, *part]
