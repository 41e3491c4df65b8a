"""The promises of routes, held against what the calls tell alone, on made-up plans."""

import random
import unittest
from itertools import combinations

from tests.helper import (
    GRID, LADDER, ROUTES, ask, conflict, diamond_yard, most, points, read, route, starting, together)
from tests.making import made_plan, made_yard


def all_lines():
    """Plans with 1 to 64 routes."""
    chance = random.Random(11)
    plans = [LADDER, GRID, diamond_yard(2) + ["signal B.0"], diamond_yard(4)]
    while len(plans) < 100:
        lines = made_yard(chance) if len(plans) < 60 else made_plan(chance, 16, chance.randrange(0, 7))
        if ask(read(*lines), ROUTES)[1][0] > 0:
            plans.append(lines)
    return plans


class Told:
    """All that is told of the routes of a plan."""

    def __init__(self, lines):
        self.lines = lines
        self.count = self.ask(ROUTES)[0][0]
        self.all = range(self.count)
        self.routes = self.ask(*[route(k) for k in self.all])
        self.sections = [told[2::3] for told in self.routes]
        self.needs = [dict(zip(told[1::2], told[2::2])) for told in self.ask(*[points(k) for k in self.all])]
        asked = self.ask(*[conflict(j, k) for j in self.all for k in self.all])
        self.conflicts = [asked[j * self.count:(j + 1) * self.count] for j in self.all]

    def ask(self, *calls):
        return ask(read(*self.lines), *calls)[1:]

    def free(self, numbers):
        return all(self.conflicts[j][k] == [0] for j, k in combinations(numbers, 2))


class Promises(unittest.TestCase):
    @classmethod
    def setUpClass(cls):
        cls.yards = [Told(lines) for lines in all_lines()]

    def test_routes_are_told_once_each_in_order(self):
        for yard in self.yards:
            # By signals; of one signal by the ends left by, as up to where two part these are the same.
            keys = [(told[0], told[4::3]) for told in yard.routes]
            self.assertEqual(keys, sorted(keys))
            self.assertEqual(len({tuple(told) for told in yard.routes}), yard.count)

    def test_each_route_is_of_its_signal(self):
        for yard in self.yards:
            signals = [told[0] for told in yard.routes]
            told = yard.ask(*[starting(signal) for signal in range(max(signals) + 1)])
            self.assertEqual(sum([answer[1:] for answer in told], []), list(yard.all))
            self.assertEqual([answer[0] for answer in told], [signals.count(signal) for signal in range(len(told))])

    def test_two_conflict_just_if_they_share_a_section(self):
        for yard in self.yards:
            for j in yard.all:
                for k in yard.all:
                    shared = [section for section in yard.sections[j] if section in yard.sections[k]]
                    self.assertEqual(yard.conflicts[j][k], [1, shared[0]] if shared else [0], yard.lines)

    def test_no_point_is_needed_two_ways_by_routes_that_do_not_conflict(self):
        for yard in self.yards:
            for j, k in combinations(yard.all, 2):
                if yard.conflicts[j][k] == [0]:
                    ways = [section for section, lie in yard.needs[j].items() if yard.needs[k].get(section, lie) != lie]
                    self.assertEqual(ways, [], yard.lines)

    def test_togethers_are_free_and_keep_out_the_others(self):
        chance = random.Random(12)
        for yard in self.yards:
            rows = [[chance.choice(yard.all) for k in range(chance.randrange(1, 30))] for j in range(5)]
            for row, (count, *taken) in zip(rows, yard.ask(*[together(*row) for row in rows])):
                self.assertEqual(count, len(taken))
                self.assertTrue(yard.free(taken), yard.lines)
                self.assertEqual(taken, [k for k in dict.fromkeys(row) if k in taken])
                for number in row:
                    before = [k for k in taken if row.index(k) < row.index(number)]
                    self.assertEqual(number in taken, yard.free(before + [number]))

    def test_mosts_are_free_and_none_are_more(self):
        chance = random.Random(13)
        for yard in self.yards:
            rows = [sorted(chance.sample(yard.all, min(yard.count, chance.randrange(1, 13)))) for j in range(5)]
            calls = [most(*row) for row in rows] + [together(*row) for row in rows]
            told = yard.ask(*calls)
            for row, (count, *taken), answer in zip(rows, told, told[len(rows):]):
                self.assertEqual(count, len(taken))
                self.assertTrue(yard.free(taken), yard.lines)
                self.assertLessEqual(set(taken), set(row))
                self.assertGreaterEqual(count, answer[0])
                as_many = [part for part in combinations(row, count) if yard.free(part)]
                self.assertEqual(tuple(taken), min(as_many))
                self.assertFalse(any(yard.free(part) for part in combinations(row, count + 1)), yard.lines)

    def test_made_plans_have_what_these_tests_are_about(self):
        self.assertGreater(len([yard for yard in self.yards if yard.count > 12]), 20)
        free = [1 for yard in self.yards for j, k in combinations(yard.all, 2) if yard.conflicts[j][k] == [0]]
        self.assertGreater(len(free), 500)


if __name__ == "__main__":
    unittest.main()
