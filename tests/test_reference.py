"""Made-up texts and calls, the same at each run, against the reference."""

import random
import unittest

from tests.helper import (
    COUNTS, HIGHEST, LADDER, PRINT, ROUTES, ask, conflict, diamond_yard, end, more_than_64, most, points, read,
    read_bytes, route, section, starting, text_of, together)
from tests.making import made_list, made_plan, made_rising, made_yard
from tests.reference import Desk, read_reference
from yardplans.box import answers

PIECES = ["plain ", "point ", "cross ", "join ", "border ", "signal ", "A", "B", "C", "A.0", "A.1", "B.0", "B.1",
          "B.2", "C.3", " ", "\n", "\n", "\n"]


def made_lines(chance):
    """A plan of either make."""
    if chance.random() < 0.3:
        return made_plan(chance, chance.randrange(1, 17), chance.randrange(0, 10))
    return made_yard(chance)


def count_routes(lines):
    return len(read_reference("".join(line + "\n" for line in lines))[0].routes())


class AgainstReference(unittest.TestCase):
    def compare(self, *calls):
        """What is answered is what the reference says; it is given back."""
        desk = Desk()
        told = ask(*calls)
        self.assertEqual(told, [desk.answer(call) for call in calls], calls)
        return told

    def compare_text(self, text):
        told = self.compare(read_bytes(text.encode("latin-1")), PRINT, COUNTS, ROUTES)
        if told[0][0] >= 0:
            self.assertEqual(ask(read_bytes(told[1][1:]), PRINT, COUNTS, ROUTES), told, text)

    def test_plans(self):
        chance = random.Random(1)
        for k in range(600):
            lines = made_plan(chance, chance.randrange(1, 17), chance.randrange(0, 10))
            self.compare_text("".join(line + "\n" for line in lines))

    def test_lines_in_any_order(self):
        chance = random.Random(2)
        for k in range(300):
            lines = made_plan(chance, chance.randrange(1, 5), 4)
            first = [line for line in lines if line[0] in "pc"]
            behind = lines[len(first):]
            chance.shuffle(behind)
            self.compare_text("".join(line + "\n" for line in first + behind))

    def test_plans_with_a_byte_changed(self):
        chance = random.Random(3)
        for k in range(600):
            lines = made_plan(chance, chance.randrange(1, 8), 4)
            signs = list("".join(line + "\n" for line in lines))
            place = chance.randrange(len(signs))
            signs[place] = chance.choice(["", "\n", " ", "A", "N", "0", "1", "2", "3", "4", ".", "x", "\xff"])
            self.compare_text("".join(signs))

    def test_words_thrown_together(self):
        chance = random.Random(4)
        for k in range(2000):
            self.compare_text("".join(chance.choice(PIECES) for j in range(chance.randrange(1, 12))))

    def test_sections_and_ends(self):
        chance = random.Random(5)
        for k in range(200):
            sections = chance.randrange(1, 10)
            asked = [end(s, d) for s in range(sections + 1) for d in range(5)]
            asked += [section(s) for s in range(sections + 1)]
            self.compare(read(*made_plan(chance, sections, 4)), *asked)

    def test_each_route(self):
        chance = random.Random(6)
        for k in range(400):
            lines = made_lines(chance)
            asked = [number for number in range(min(count_routes(lines), 64) + 1)] + [HIGHEST]
            calls = [route(number) for number in asked] + [points(number) for number in asked]
            calls += [starting(signal) for signal in range(13)]
            self.compare(read(*lines), ROUTES, *calls)

    def test_routes_in_conflict(self):
        chance = random.Random(7)
        for k in range(100):
            lines = made_lines(chance)
            asked = range(min(count_routes(lines), 18) + 1)
            self.compare(read(*lines), *[conflict(j, m) for j in asked for m in asked])

    def test_together_and_most(self):
        chance = random.Random(8)
        for k in range(150):
            lines = made_lines(chance)
            count = count_routes(lines)
            calls = [together(*made_list(chance, count)) for j in range(8)]
            calls += [most(*made_rising(chance, count)) for j in range(8)]
            self.compare(read(*lines), *calls)


class ManyCalls(unittest.TestCase):
    """Lists of 400 calls of all kinds, with reads in between."""

    def made_call(self, chance, texts, count):
        number = chance.randrange(count + 1) if chance.random() < 0.95 else HIGHEST
        other = chance.randrange(count + 1)
        makers = [
            lambda: read_bytes(chance.choice(texts)), lambda: PRINT, lambda: section(other),
            lambda: end(number, chance.randrange(4)), lambda: COUNTS, lambda: ROUTES, lambda: route(number),
            lambda: points(number), lambda: conflict(number, other), lambda: starting(other),
            lambda: together(*made_list(chance, count)), lambda: most(*made_rising(chance, count))]
        return chance.choice(makers)()

    def made_calls(self, chance):
        plans = [made_lines(chance) for k in range(6)]
        texts = [text_of(*lines) for lines in plans + [LADDER, diamond_yard(6), diamond_yard(7), ["plain"]]]
        texts += [[], [65] * 1025]
        desk = Desk()
        calls, expected = [], []
        while len(calls) < 400:
            calls.append(self.made_call(chance, texts, min(len(desk.found), 64)))
            expected.append(desk.answer(calls[-1]))
        return calls, expected

    def test_each_answers_of_the_plan_that_is_held_then(self):
        chance = random.Random(9)
        for k in range(25):
            calls, expected = self.made_calls(chance)
            self.assertEqual({call[0] for call in calls}, set(range(12)))
            self.assertEqual(ask(*calls), expected)

    def test_the_list_stays_and_a_second_time_is_like_the_first(self):
        chance = random.Random(10)
        for k in range(5):
            row = [number for call in self.made_calls(chance)[0] for number in call]
            before = list(row)
            first = answers(row)
            self.assertEqual(row, before)
            self.assertEqual(answers(row), first)
            self.assertEqual(row, before)

    def test_400_calls_behind_a_plan_with_more_than_64_routes(self):
        calls = (more_than_64() * 20)[:398]
        self.assertEqual(ask(read(*diamond_yard(7)), *calls, COUNTS), [[16]] + [[-9]] * 398 + [[16, 22, 0, 1]])


if __name__ == "__main__":
    unittest.main()
