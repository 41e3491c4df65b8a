"""Made-up texts, the same at each run, against the reference."""

import random
import unittest

from tests.helper import COUNTS, PRINT, ROUTES, ask, end, read_bytes, text_of
from tests.reference import DIGITS, read_reference

PIECES = ["plain ", "point ", "cross ", "join ", "border ", "signal ", "A", "B", "C", "A.0", "A.1", "B.0", "B.1",
          "B.2", "C.3", " ", "\n", "\n", "\n"]


def made_plan(chance, sections, points):
    """Lines of a plan with so many sections: most ends are joined, signals where they may be."""
    kinds = ["plain"] * (10 - points) + ["point"] * points + ["cross"]
    drawn = [(chance.choice(kinds), f"N{k}") for k in range(sections)]
    lines = [f"{kind} {name}" for kind, name in drawn]
    ends = [(kind, f"{name}.{digit}") for kind, name in drawn for digit in DIGITS[kind]]
    chance.shuffle(ends)
    signals = []
    while len(ends) > 1:
        pair = [ends.pop(), ends.pop()]
        if chance.random() < 0.9:
            lines.append(f"join {pair[0][1]} {pair[1][1]}")
            signals += [f"signal {word}" for kind, word in pair if kind == "plain" and chance.random() < 0.4]
        else:
            lines += [f"border {word}" for kind, word in pair if kind == "plain" and chance.random() < 0.5]
    chance.shuffle(signals)
    return lines + signals[:12]


class AgainstReference(unittest.TestCase):
    def compare(self, text):
        yard, fault = read_reference(text)
        told = ask(read_bytes(list(text.encode("latin-1"))), PRINT, COUNTS, ROUTES)
        if fault:
            self.assertEqual(told, [[-6] + fault, [0], [0, 0, 0, 0], [0]], text)
            return
        form = text_of(*yard.form())
        routes = yard.routes()
        self.assertEqual(told[0], [len(yard.kinds)], text)
        self.assertEqual(told[1], [len(form)] + form, text)
        self.assertEqual(told[2], [len(yard.kinds), len(yard.pairs), len(yard.borders), len(yard.signals)], text)
        self.assertEqual(told[3], [routes] if routes <= 64 else [-9], text)
        self.assertEqual(ask(read_bytes(form), PRINT, COUNTS, ROUTES), told, text)

    def test_plans(self):
        chance = random.Random(1)
        for k in range(600):
            lines = made_plan(chance, chance.randrange(1, 17), chance.randrange(0, 10))
            self.compare("".join(line + "\n" for line in lines))

    def test_lines_in_any_order(self):
        chance = random.Random(2)
        for k in range(300):
            lines = made_plan(chance, chance.randrange(1, 5), 4)
            first = [line for line in lines if line[0] in "pc"]
            behind = lines[len(first):]
            chance.shuffle(behind)
            self.compare("".join(line + "\n" for line in first + behind))

    def test_plans_with_a_byte_changed(self):
        chance = random.Random(3)
        for k in range(600):
            lines = made_plan(chance, chance.randrange(1, 8), 4)
            signs = list("".join(line + "\n" for line in lines))
            place = chance.randrange(len(signs))
            signs[place] = chance.choice(["", "\n", " ", "A", "N", "0", "1", "2", "3", "4", ".", "x", "\xff"])
            self.compare("".join(signs))

    def test_words_thrown_together(self):
        chance = random.Random(4)
        for k in range(2000):
            self.compare("".join(chance.choice(PIECES) for j in range(chance.randrange(1, 12))))

    def test_ends(self):
        chance = random.Random(5)
        for k in range(200):
            lines = made_plan(chance, chance.randrange(1, 10), 4)
            text = "".join(line + "\n" for line in lines)
            yard = read_reference(text)[0]
            asked = [(s, d) for s in range(len(yard.kinds) + 1) for d in range(5)]
            told = ask(read_bytes(list(text.encode())), *[end(s, d) for s, d in asked])
            names = list(yard.kinds) + ["NONE"]
            for (s, d), answer in zip(asked, told[1:]):
                self.assertEqual(answer, self.end_answer(yard, f"{names[s]}.{d}"), text)

    def end_answer(self, yard, word):
        if not yard.exists(word):
            return [-4]
        if word in yard.borders:
            return [2, sorted(yard.borders, key=yard.rank).index(word)]
        if yard.partner(word) is None:
            return [0]
        signal = sorted(yard.signals, key=yard.rank).index(word) + 1 if word in yard.signals else 0
        return [1, *yard.rank(yard.partner(word)), signal]


if __name__ == "__main__":
    unittest.main()
