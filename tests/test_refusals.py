"""-9 ahead of all others, plans without routes, and reads that are refused."""

import unittest

from tests.helper import (
    HIGHEST, LADDER, ROUTES, ask, conflict, diamond_yard, more_than_64, most, points, read, read_bytes, route,
    starting, together)

# Calls that ask for routes, each with what it answers of a plan without signals.
NO_ROUTES = [
    (ROUTES, [0]), (route(0), [-4]), (points(0), [-4]), (conflict(0, 0), [-4]), (starting(0), [-4]),
    (together(), [0]), (together(0), [-4]), (together(0, 0), [-4]), (most(), [0]), (most(0), [-4]),
    (most(0, 0), [-1]), (most(*range(12)), [-4]), (most(*range(13)), [-1])]
# The same of the ladder.
OF_LADDER = [
    (ROUTES, [6]), (route(2), [1, 2, 3, 1, 0, 5, 0, 1]), (points(5), [2, 3, 2, 2, 2]), (conflict(5, 1), [1, 3]),
    (starting(3), [2, 4, 5]), (together(1, 2, 3), [1, 1]), (most(1, 2, 3), [2, 2, 3])]


def split(pairs):
    return [call for call, answer in pairs], [answer for call, answer in pairs]


class MoreThan64(unittest.TestCase):
    def refused(self, lines):
        calls = more_than_64()
        self.assertEqual({call[0] for call in calls}, set(range(5, 12)))
        self.assertEqual(ask(read(*lines), *calls)[1:], [[-9]] * len(calls))

    def test_65(self):
        self.refused(diamond_yard(6) + ["plain C", "plain D", "join C.1 D.0", "signal C.1"])

    def test_128(self):
        self.refused(diamond_yard(6) + ["signal B.0"])
        self.refused(diamond_yard(7))

    def test_64(self):
        told = ask(
            read(*diamond_yard(6)), ROUTES, route(63), points(63), conflict(63, 0), conflict(0, 63), starting(0),
            together(63, 0), most(*range(52, 64)))[1:]
        sections = [number for k in range(12) for number in ((k, 0, 2) if k % 2 == 0 else (k, 2, 0))]
        self.assertEqual(told, [
            [64], [0, 13] + sections + [13, 0, 1], [12] + [number for k in range(12) for number in (k, 2)], [1, 0],
            [1, 0], [64] + list(range(64)), [1, 63], [1, 52]])
        calls = [route(64), points(64), conflict(64, 0), conflict(0, 64), starting(1), together(64), most(64)]
        self.assertEqual(ask(read(*diamond_yard(6)), *calls)[1:], [[-4]] * 7)
        self.assertEqual(ask(read(*diamond_yard(6)), most(64, 64), most(*range(13)))[1:], [[-1]] * 2)

    def test_another_plan(self):
        calls, told = split(OF_LADDER)
        many = more_than_64()
        self.assertEqual(
            ask(read(*diamond_yard(7)), *many, read(*LADDER), *calls, read(*diamond_yard(7)), *many),
            [[16]] + [[-9]] * len(many) + [[6]] + told + [[16]] + [[-9]] * len(many))


class WithoutRoutes(unittest.TestCase):
    def test_before_any_read(self):
        for call, answer in NO_ROUTES:
            self.assertEqual(ask(call), [answer])

    def test_a_plan_without_sections(self):
        calls, told = split(NO_ROUTES)
        self.assertEqual(ask(*calls), told)
        self.assertEqual(ask(read(*LADDER), read_bytes([]), *calls), [[6], [0]] + told)

    def test_a_plan_without_signals(self):
        calls, told = split(NO_ROUTES)
        lines = [line for line in LADDER if not line.startswith("signal")]
        self.assertEqual(ask(read(*lines), *calls), [[6]] + told)

    def test_high_numbers(self):
        calls = [route(HIGHEST), points(HIGHEST), conflict(HIGHEST, HIGHEST), starting(HIGHEST), together(HIGHEST),
                 most(HIGHEST)]
        self.assertEqual(ask(*calls), [[-4]] * 6)


class RefusedReads(unittest.TestCase):
    def test_the_plan_held_before_stays(self):
        calls, told = split(OF_LADDER)
        bad = read(*(diamond_yard(7) + ["plain"]))
        long = read_bytes([65] * 1025)
        self.assertEqual(
            ask(read(*LADDER), bad, *calls, long, *calls, bad, long, *calls),
            [[6], [-6, 39, 1]] + told + [[-2]] + told + [[-6, 39, 1], [-2]] + told)

    def test_no_plan_was_held_before(self):
        calls, told = split(NO_ROUTES)
        bad = read(*(LADDER + ["signal A.0"]))
        self.assertEqual(ask(bad, *calls), [[-6, 15, 5]] + told)

    def test_more_than_64_stay(self):
        many = more_than_64()
        bad = read(*(LADDER + ["signal A.1"]))
        self.assertEqual(ask(read(*diamond_yard(7)), bad, *many), [[16], [-6, 15, 4]] + [[-9]] * len(many))

    def test_other_refusals_change_nothing(self):
        calls, told = split(OF_LADDER)
        wrong = [route(6), points(6), conflict(6, 0), starting(4), together(1, 6), most(2, 1), most(6)]
        refused = [[-4]] * 5 + [[-1], [-4]]
        self.assertEqual(ask(read(*LADDER), *wrong, *calls, *wrong, *calls), [[6]] + (refused + told) * 2)


if __name__ == "__main__":
    unittest.main()
