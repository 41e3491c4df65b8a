"""route, points and from: the routes one by one."""

import unittest

from tests.helper import HIGHEST, LADDER, ROUTES, ask, diamond_yard, points, read, route, starting

# F0 0, G0 1, F1 2, G1 3, A 4, B 5: four routes from A's signal to B, four from B's to A.
DIAMONDS = diamond_yard(2) + ["signal B.0"]

# The ways through a cross, and points on both sides of it.
CROSSED = [
    "plain A", "point P", "cross X", "point Q", "plain B", "plain C", "plain D",
    "join A.1 P.2", "join P.0 X.2", "join X.3 Q.0", "join Q.1 B.0", "join Q.2 B.1", "join C.1 X.0", "join X.1 D.0",
    "signal A.1", "signal C.1", "signal B.0", "signal B.1"]


def told_by(call, lines, numbers):
    """What the call tells of each of these numbers in the plan of these lines."""
    return ask(read(*lines), *[call(number) for number in numbers])[1:]


class Route(unittest.TestCase):
    def test_one_section(self):
        lines = ["plain A", "plain B", "join A.1 B.0", "signal A.1"]
        self.assertEqual(told_by(route, lines, [0, 1]), [[0, 1, 1, 0, 1], [-4]])
        lines = ["plain B", "plain A", "join A.0 B.1", "signal A.0"]
        self.assertEqual(told_by(route, lines, [0, 1]), [[0, 1, 0, 1, 0], [-4]])

    def test_sections_in_the_routes_order(self):
        lines = ["plain A", "plain D", "plain C", "plain B", "join A.1 B.0", "join B.1 C.1", "join C.0 D.0",
                 "border D.1", "signal A.1"]
        self.assertEqual(told_by(route, lines, [0]), [[0, 3, 3, 0, 1, 2, 1, 0, 1, 0, 1]])

    def test_as_many_sections_as_can_be(self):
        lines = [f"plain S{k}" for k in range(16)] + [f"join S{k}.1 S{k + 1}.0" for k in range(15)] + ["signal S0.1"]
        steps = [number for k in range(1, 16) for number in (k, 0, 1)]
        self.assertEqual(told_by(route, lines, [0, 1]), [[0, 15] + steps, [-4]])

    def test_each_of_a_ladder(self):
        self.assertEqual(told_by(route, LADDER, range(7)), [
            [0, 2, 2, 0, 1, 4, 0, 1],
            [0, 3, 2, 0, 2, 3, 2, 0, 5, 0, 1],
            [1, 2, 3, 1, 0, 5, 0, 1],
            [2, 2, 2, 1, 0, 0, 1, 0],
            [3, 2, 3, 0, 1, 1, 1, 0],
            [3, 3, 3, 0, 2, 2, 2, 0, 0, 1, 0],
            [-4],
        ])

    def test_first_and_last_of_two_signals(self):
        first, last = told_by(route, DIAMONDS, [0, 3])
        self.assertEqual(first, [0, 5, 0, 0, 1, 1, 1, 0, 2, 0, 1, 3, 1, 0, 5, 0, 1])
        self.assertEqual(last, [0, 5, 0, 0, 2, 1, 2, 0, 2, 0, 2, 3, 2, 0, 5, 0, 1])
        first, last, none = told_by(route, DIAMONDS, [4, 7, 8])
        self.assertEqual(first, [1, 5, 3, 0, 1, 2, 1, 0, 1, 0, 1, 0, 1, 0, 4, 1, 0])
        self.assertEqual(last, [1, 5, 3, 0, 2, 2, 2, 0, 1, 0, 2, 0, 2, 0, 4, 1, 0])
        self.assertEqual(none, [-4])

    def test_normal_comes_first_wherever_two_part(self):
        # The second point parts within each way of the first, so it changes at each number.
        exits = [(told[4], told[10]) for told in told_by(route, DIAMONDS, range(8))]
        self.assertEqual(exits, [(1, 1), (1, 2), (2, 1), (2, 2)] * 2)

    def test_parting_goes_ahead_of_section_numbers(self):
        # The way by the normal end goes to the higher section, and is longer.
        lines = ["plain A", "plain B", "plain C", "plain D", "point P", "join A.1 P.0", "join P.1 D.0", "join D.1 C.0",
                 "join P.2 B.0", "signal A.1"]
        self.assertEqual(told_by(route, lines, [0, 1]), [
            [0, 3, 4, 0, 1, 3, 0, 1, 2, 0, 1], [0, 2, 4, 0, 2, 1, 0, 1]])

    def test_signals_are_numbered_by_their_ends(self):
        lines = ["plain A", "plain B", "plain C", "join B.0 A.0", "join B.1 C.0", "signal B.1", "signal B.0"]
        self.assertEqual(told_by(route, lines, [0, 1]), [[0, 1, 0, 0, 1], [1, 1, 2, 0, 1]])

    def test_a_signal_without_routes_keeps_its_number(self):
        lines = ["plain A", "point P", "plain B", "plain C", "join A.1 P.0", "join B.1 C.0", "signal A.1", "signal B.1"]
        self.assertEqual(told_by(route, lines, [0, 1]), [[1, 1, 3, 0, 1], [-4]])

    def test_through_a_cross(self):
        self.assertEqual(told_by(route, CROSSED, range(6)), [
            [0, 4, 1, 2, 0, 2, 2, 3, 3, 0, 1, 4, 0, 1],
            [0, 4, 1, 2, 0, 2, 2, 3, 3, 0, 2, 4, 1, 0],
            [1, 4, 3, 1, 0, 2, 3, 2, 1, 0, 2, 0, 1, 0],
            [2, 4, 3, 2, 0, 2, 3, 2, 1, 0, 2, 0, 1, 0],
            [3, 2, 2, 0, 1, 6, 0, 1],
            [-4],
        ])

    def test_none_there(self):
        self.assertEqual(told_by(route, LADDER, [5, 6, HIGHEST])[1:], [[-4], [-4]])
        self.assertEqual(told_by(route, ["plain A"], [0, HIGHEST]), [[-4], [-4]])
        self.assertEqual(ask(route(0), route(HIGHEST)), [[-4], [-4]])


class Points(unittest.TestCase):
    def test_no_point(self):
        lines = ["plain A", "plain B", "plain C", "join A.1 B.0", "join B.1 C.0", "signal A.1"]
        self.assertEqual(told_by(points, lines, [0]), [[0]])

    def test_from_each_end(self):
        lines = ["plain A", "point P", "plain B", "plain C", "join A.1 P.0", "join P.1 B.0", "join P.2 C.0"]
        self.assertEqual(told_by(points, lines + ["signal A.1"], [0, 1]), [[1, 1, 1], [1, 1, 2]])
        self.assertEqual(told_by(points, lines + ["signal B.0"], [0, 1]), [[1, 1, 1], [-4]])
        self.assertEqual(told_by(points, lines + ["signal C.0"], [0, 1]), [[1, 1, 2], [-4]])

    def test_each_of_a_ladder(self):
        self.assertEqual(told_by(points, LADDER, range(7)), [
            [1, 2, 1], [2, 2, 2, 3, 2], [1, 3, 1], [1, 2, 1], [1, 3, 1], [2, 3, 2, 2, 2], [-4]])

    def test_in_the_routes_order(self):
        told = told_by(points, DIAMONDS, [1, 2, 5, 6])
        self.assertEqual(told[0], [4, 0, 1, 1, 1, 2, 2, 3, 2])
        self.assertEqual(told[1], [4, 0, 2, 1, 2, 2, 1, 3, 1])
        self.assertEqual(told[2], [4, 3, 1, 2, 1, 1, 2, 0, 2])
        self.assertEqual(told[3], [4, 3, 2, 2, 2, 1, 1, 0, 1])

    def test_a_cross_is_no_point(self):
        lines = ["plain A", "cross X", "plain B", "plain C", "plain D", "join A.1 X.0", "join X.1 B.0",
                 "join C.1 X.2", "join X.3 D.0", "signal A.1", "signal C.1", "signal B.0", "signal D.0"]
        self.assertEqual(told_by(points, lines, range(5)), [[0], [0], [0], [0], [-4]])
        self.assertEqual(told_by(points, CROSSED, [0, 1]), [[2, 1, 2, 3, 1], [2, 1, 2, 3, 2]])

    def test_none_there(self):
        self.assertEqual(told_by(points, LADDER, [6, HIGHEST]), [[-4], [-4]])
        self.assertEqual(told_by(points, ["plain A"], [0]), [[-4]])
        self.assertEqual(ask(points(0), points(HIGHEST)), [[-4], [-4]])


class From(unittest.TestCase):
    def test_each_of_a_ladder(self):
        self.assertEqual(told_by(starting, LADDER, range(5)), [[2, 0, 1], [1, 2], [1, 3], [2, 4, 5], [-4]])

    def test_more(self):
        self.assertEqual(told_by(starting, DIAMONDS, range(3)), [[4, 0, 1, 2, 3], [4, 4, 5, 6, 7], [-4]])

    def test_none_one_and_more(self):
        lines = LADDER + ["plain E", "point R", "join E.1 R.0", "signal E.1", "plain F", "plain G", "join F.1 G.0",
                          "signal F.1"]
        self.assertEqual(told_by(starting, lines, range(7)), [
            [2, 0, 1], [1, 2], [1, 3], [2, 4, 5], [0], [1, 6], [-4]])

    def test_a_first_signal_without_routes(self):
        lines = ["plain E", "point R", "join E.1 R.0", "signal E.1"] + LADDER
        self.assertEqual(told_by(starting, lines, range(6)), [[0], [2, 0, 1], [1, 2], [1, 3], [2, 4, 5], [-4]])

    def test_no_route_at_all(self):
        lines = ["plain E", "point R", "join E.1 R.0", "signal E.1"]
        self.assertEqual(told_by(starting, lines, [0, 1, HIGHEST]), [[0], [-4], [-4]])

    def test_no_such_signal(self):
        self.assertEqual(told_by(starting, LADDER, [4, 5, 6, HIGHEST]), [[-4]] * 4)
        self.assertEqual(told_by(starting, ["plain A", "plain B", "join A.1 B.0"], [0, HIGHEST]), [[-4]] * 2)
        self.assertEqual(ask(starting(0), starting(HIGHEST)), [[-4]] * 2)

    def test_twelve_signals(self):
        lines = [f"plain S{k}" for k in range(16)] + [f"join S{k}.1 S{k + 1}.0" for k in range(15)]
        lines += [f"signal S{k}.1" for k in range(12)]
        self.assertEqual(told_by(starting, lines, range(13)), [[1, k] for k in range(12)] + [[-4]])

    def test_each_route_begins_at_its_signal(self):
        for lines in [LADDER, DIAMONDS, CROSSED]:
            counts = ask(read(*lines), ROUTES)
            signals = [told[0] for told in told_by(route, lines, range(counts[1][0]))]
            for signal, told in enumerate(told_by(starting, lines, range(max(signals) + 1))):
                self.assertEqual(told[1:], [k for k, other in enumerate(signals) if other == signal])


if __name__ == "__main__":
    unittest.main()
