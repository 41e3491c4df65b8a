"""routes: how many there are."""

import unittest

from tests.helper import ROUTES, ask, diamond_yard, read, text_of
from yardplans.plan import Plan
from yardplans.reading import read_text
from yardplans.routing import find_routes


class RoutesCase(unittest.TestCase):
    def count(self, number, *lines):
        self.assertEqual(ask(read(*lines), ROUTES)[1], [number], lines)


class PlainLines(RoutesCase):
    def test_no_signal(self):
        self.assertEqual(ask(ROUTES), [[0]])
        self.count(0, "plain A", "plain B", "join A.1 B.0", "border A.0")

    def test_to_an_open_end(self):
        self.count(1, "plain A", "plain B", "join A.1 B.0", "signal A.1")
        self.count(1, "plain A", "plain B", "join A.0 B.1", "signal A.0")
        self.count(1, "plain A", "plain B", "join A.0 B.0", "signal B.0")

    def test_to_a_border(self):
        self.count(1, "plain A", "plain B", "join A.1 B.0", "border B.1", "signal A.1")

    def test_to_the_next_signal(self):
        self.count(2, "plain A", "plain B", "plain C", "join A.1 B.0", "join B.1 C.0", "signal A.1", "signal B.1")

    def test_a_signal_for_the_other_way_stops_nobody(self):
        # B's signal is for trains that leave it by 0: from A it is passed, and it has a route of its own.
        self.count(2, "plain A", "plain B", "plain C", "join A.1 B.0", "join B.1 C.0", "signal A.1", "signal B.0")

    def test_through_many(self):
        lines = [f"plain S{k}" for k in range(16)] + [f"join S{k}.1 S{k + 1}.0" for k in range(15)]
        self.count(1, *(lines + ["signal S0.1"]))
        self.count(1, *(lines + ["signal S15.0"]))
        self.count(12, *(lines + [f"signal S{k}.1" for k in range(12)]))

    def test_back_to_the_signals_own_section(self):
        ring = ["plain A", "plain B", "join A.1 B.0", "join B.1 A.0"]
        self.count(0, *(ring + ["signal A.1"]))
        self.count(2, *(ring + ["signal A.1", "signal B.1"]))
        self.count(0, *(ring + ["signal A.1", "signal A.0"]))

    def test_a_section_joined_to_itself(self):
        self.count(0, "plain A", "join A.0 A.1", "signal A.1")
        self.count(0, "plain A", "join A.0 A.1", "signal A.1", "signal A.0")


class Points(RoutesCase):
    def test_from_the_toe(self):
        lines = ["plain A", "point P", "plain B", "plain C", "join A.1 P.0", "join P.1 B.0", "join P.2 C.0"]
        self.count(2, *(lines + ["signal A.1"]))

    def test_from_behind(self):
        lines = ["plain A", "point P", "plain B", "plain C", "join A.1 P.0", "join P.1 B.0", "join P.2 C.0"]
        self.count(1, *(lines + ["signal B.0"]))
        self.count(1, *(lines + ["signal C.0"]))
        self.count(4, *(lines + ["signal A.1", "signal B.0", "signal C.0"]))

    def test_an_end_that_is_not_joined(self):
        lines = ["plain A", "point P", "plain B", "join A.1 P.0", "signal A.1"]
        self.count(0, *lines)
        self.count(1, *(lines + ["join P.1 B.0"]))
        self.count(1, *(lines + ["join P.2 B.0"]))
        self.count(0, "plain A", "point P", "join A.1 P.1", "signal A.1")
        self.count(0, "plain A", "point P", "join A.1 P.2", "signal A.1")

    def test_back_to_the_point(self):
        self.count(0, "plain A", "point P", "join A.1 P.0", "join P.1 P.2", "signal A.1")
        self.count(0, "plain A", "point P", "plain B", "join A.1 P.0", "join P.1 B.0", "join B.1 P.2", "signal A.1")

    def test_a_stop_ahead_of_the_point(self):
        # The loop's signal is where a train may stop, so the way does not come back to P.
        self.count(2, "plain A", "point P", "plain B", "join A.1 P.0", "join P.1 B.0", "join B.1 P.2", "signal A.1",
                   "signal B.1")

    def test_back_to_the_signals_section_by_a_point(self):
        self.count(1, "plain A", "point P", "plain B", "join A.1 P.0", "join P.1 A.0", "join P.2 B.0", "signal A.1")

    def test_back_to_a_plain_section(self):
        self.count(0, "plain A", "plain B", "point P", "join A.1 B.0", "join B.1 P.0", "join P.1 P.2", "signal A.1")

    def test_ways_that_meet_again_are_two_routes(self):
        self.count(2, *diamond_yard(1))
        self.count(4, *diamond_yard(2))


class Crosses(RoutesCase):
    def test_each_way_through(self):
        lines = ["plain A", "plain B", "plain C", "plain D", "cross X",
                 "join A.1 X.0", "join B.1 X.1", "join C.1 X.2", "join D.1 X.3"]
        for name in "ABCD":
            self.count(1, *(lines + [f"signal {name}.1"]))
        self.count(4, *(lines + [f"signal {name}.1" for name in "ABCD"]))

    def test_not_from_one_way_to_the_other(self):
        for digit, across in [(0, 1), (1, 0), (2, 3), (3, 2)]:
            for other in range(4):
                if other != digit:
                    self.count(1 if other == across else 0,
                               "plain A", "plain B", "cross X", f"join A.1 X.{digit}", f"join X.{other} B.0",
                               "signal A.1")

    def test_an_end_that_is_not_joined(self):
        self.count(0, "plain A", "cross X", "join A.1 X.0", "signal A.1")

    def test_back_to_the_cross_by_its_other_way(self):
        self.count(0, "plain A", "plain B", "cross X", "join A.1 X.0", "join X.1 X.2", "join X.3 B.0", "signal A.1")
        self.count(0, "plain A", "plain B", "plain C", "cross X", "join A.1 X.0", "join X.1 C.0", "join C.1 X.2",
                   "join X.3 B.0", "signal A.1")


class Many(RoutesCase):
    def test_64(self):
        self.count(64, *diamond_yard(6))

    def test_65(self):
        self.count(-9, *(diamond_yard(6) + ["plain C", "plain D", "join C.1 D.0", "signal C.1"]))

    def test_more(self):
        self.count(-9, *(diamond_yard(6) + ["signal B.0"]))
        self.count(-9, *diamond_yard(7))
        self.count(-9, *(diamond_yard(7) + ["signal B.0"]))

    def test_many_ways_and_no_route(self):
        self.count(0, *[line for line in diamond_yard(7) if line != "join G6.0 B.0"])

    def test_another_plan_has_other_routes(self):
        few = read("plain A", "plain B", "join A.1 B.0", "signal A.1")
        many = read(*diamond_yard(7))
        bad = read("plain")
        told = ask(few, ROUTES, bad, ROUTES, many, ROUTES, ROUTES, bad, ROUTES, few, ROUTES, read("plain A"), ROUTES)
        self.assertEqual([answer[0] for answer in told], [2, 1, -6, 1, 16, -9, -9, -6, -9, 2, 1, 1, 0])


class Found(unittest.TestCase):
    """The routes as they are found, each once and in their order."""

    def found(self, *lines):
        plan = Plan()
        self.assertIsNone(read_text(plan, text_of(*lines)))
        return find_routes(plan)

    def test_steps_and_order(self):
        lines = ["plain A", "point P", "plain B", "plain C", "join A.1 P.0", "join P.1 B.0", "join P.2 C.1",
                 "signal C.1", "signal A.1"]
        self.assertEqual(self.found(*lines), [
            (0, ((1, 0, 1), (2, 0, 1))),
            (0, ((1, 0, 2), (3, 1, 0))),
            (1, ((1, 2, 0), (0, 1, 0))),
        ])

    def test_none_twice(self):
        routes = self.found(*diamond_yard(6))
        self.assertEqual(len(set(routes)), 64)
        self.assertEqual(routes, sorted(routes))


if __name__ == "__main__":
    unittest.main()
