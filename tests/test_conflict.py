"""conflict, together and most: which routes can be set at once."""

import unittest

from tests.helper import GRID, HIGHEST, LADDER, ask, conflict, diamond_yard, most, read, together

SIGNALS = [f"signal S{k}.1" for k in range(12)]
LINE = [f"plain S{k}" for k in range(12)] + [f"join S{k}.1 S{k + 1}.0" for k in range(11)]
# Twelve sections in a ring, a signal at each: twelve routes of one section, all free of each other.
RING = LINE + ["join S11.1 S0.0"] + SIGNALS
# A point in the place of the last join: two routes of the last signal, 11 and 12.
PARTED = LINE + ["point P", "plain T", "plain U", "join S11.1 P.0", "join P.1 T.0", "join P.2 U.0"] + SIGNALS


class Case(unittest.TestCase):
    def told(self, lines, *calls):
        return ask(read(*lines), *calls)[1:]


class Conflict(Case):
    def test_the_first_in_the_first_ones_order(self):
        self.assertEqual(self.told(LADDER, conflict(1, 5), conflict(5, 1)), [[1, 2], [1, 3]])
        yard = diamond_yard(2) + ["signal B.0"]
        self.assertEqual(self.told(yard, conflict(0, 4), conflict(4, 0)), [[1, 0], [1, 3]])

    def test_not_the_lowest_section(self):
        lines = ["plain C", "plain B", "plain A", "plain D", "join A.1 B.0", "join B.1 C.0", "join C.1 D.0",
                 "signal A.1", "signal D.0"]
        self.assertEqual(self.told(lines, conflict(0, 1), conflict(1, 0)), [[1, 1], [1, 0]])

    def test_behind_sections_of_one_alone(self):
        self.assertEqual(self.told(LADDER, conflict(1, 2), conflict(2, 1)), [[1, 3], [1, 3]])
        self.assertEqual(self.told(LADDER, conflict(1, 4), conflict(5, 3), conflict(3, 5)), [[1, 3], [1, 2], [1, 2]])

    def test_the_last_section_alone(self):
        # From A and from E two ways come into C, each by an end of its own, to a signal for each.
        lines = ["plain A", "plain B", "plain C", "plain D", "plain E", "join A.1 B.0", "join B.1 C.0", "join C.1 D.0",
                 "join D.1 E.0", "signal A.1", "signal C.1", "signal C.0", "signal E.0"]
        self.assertEqual(self.told(lines, conflict(0, 3), conflict(3, 0)), [[1, 2], [1, 2]])

    def test_one_needs_a_point_the_other_way(self):
        lines = ["plain A", "plain B", "plain C", "point P", "join A.1 P.1", "join B.1 P.2", "join P.0 C.0",
                 "signal A.1", "signal B.1"]
        self.assertEqual(self.told(lines, conflict(0, 1), conflict(1, 0)), [[1, 3], [1, 3]])

    def test_a_cross_is_shared_by_both_its_ways(self):
        self.assertEqual(self.told(GRID, conflict(0, 1), conflict(0, 2), conflict(3, 1), conflict(2, 3)),
                         [[1, 8], [1, 9], [1, 10], [1, 11]])

    def test_none(self):
        calls = [conflict(0, 2), conflict(2, 0), conflict(0, 4), conflict(2, 3), conflict(3, 4), conflict(4, 3)]
        self.assertEqual(self.told(LADDER, *calls), [[0]] * 6)
        self.assertEqual(self.told(GRID, conflict(0, 3), conflict(2, 1)), [[0]] * 2)

    def test_the_signals_own_section_is_not_the_routes(self):
        # The second route goes on from the section in which the first one stops.
        lines = ["plain A", "plain B", "plain C", "join A.1 B.0", "join B.1 C.0", "signal A.1", "signal B.1"]
        self.assertEqual(self.told(lines, conflict(0, 1), conflict(1, 0)), [[0], [0]])

    def test_with_itself(self):
        self.assertEqual(self.told(LADDER, *[conflict(k, k) for k in range(6)]),
                         [[1, 2], [1, 2], [1, 3], [1, 2], [1, 3], [1, 3]])

    def test_none_there(self):
        wrong = [6, 7, HIGHEST]
        calls = [conflict(number, 0) for number in wrong] + [conflict(5, number) for number in wrong]
        calls += [conflict(j, k) for j in wrong for k in wrong]
        self.assertEqual(self.told(LADDER, *calls), [[-4]] * len(calls))
        self.assertEqual(self.told(["plain A"], conflict(0, 0)), [[-4]])
        self.assertEqual(ask(conflict(0, 0)), [[-4]])


class Together(Case):
    def test_no_numbers(self):
        self.assertEqual(self.told(LADDER, together()), [[0]])
        self.assertEqual(self.told(["plain A"], together()), [[0]])
        self.assertEqual(ask(together()), [[0]])

    def test_one(self):
        self.assertEqual(self.told(LADDER, *[together(k) for k in range(6)]), [[1, k] for k in range(6)])

    def test_one_more_than_once(self):
        self.assertEqual(self.told(LADDER, together(1, 1)), [[1, 1]])
        self.assertEqual(self.told(LADDER, together(0, 2, 0, 2, 2)), [[2, 0, 2]])
        self.assertEqual(self.told(RING, together(7, 7, 3, 7, 3, 7, 0)), [[3, 7, 3, 0]])

    def test_an_early_one_keeps_out_later_ones(self):
        self.assertEqual(self.told(LADDER, together(1, 2, 3), together(2, 3, 1), together(2, 1, 3)),
                         [[1, 1], [2, 2, 3], [2, 2, 3]])
        self.assertEqual(self.told(GRID, together(0, 1, 2, 3), together(1, 0, 3, 2)), [[2, 0, 3], [2, 1, 2]])

    def test_what_is_kept_out_keeps_out_none(self):
        # 1 would keep out 4, but 0 has kept out 1.
        self.assertEqual(self.told(LADDER, together(0, 1, 4)), [[2, 0, 4]])

    def test_in_the_lists_order(self):
        self.assertEqual(self.told(LADDER, together(4, 0), together(0, 4)), [[2, 4, 0], [2, 0, 4]])
        order = [5, 11, 0, 3, 8, 1, 10, 2, 9, 4, 7, 6]
        self.assertEqual(self.told(RING, together(*order)), [[12] + order])

    def test_more_than_twelve(self):
        self.assertEqual(self.told(PARTED, together(*range(13))), [[12] + list(range(12))])
        self.assertEqual(self.told(PARTED, together(*range(12, -1, -1))), [[12, 12] + list(range(10, -1, -1))])

    def test_long_lists(self):
        row = [5] * 10000 + [0, 1, 2, 3, 4, 5] * 1666 + [3, 3, 3]
        self.assertEqual(self.told(LADDER, together(*row)), [[1, 5]])
        row = [11] * 19988 + list(range(12))
        self.assertEqual(self.told(RING, together(*row)), [[12, 11] + list(range(11))])

    def test_none_there(self):
        for number in [6, 7, HIGHEST]:
            calls = [together(number), together(number, 0), together(0, number), together(0, number, 2)]
            # Behind one that conflicts, and behind one that's there twice.
            calls += [together(1, 2, number), together(1, 1, number), together(0, 2, 4, number)]
            self.assertEqual(self.told(LADDER, *calls), [[-4]] * len(calls))
        self.assertEqual(self.told(LADDER, together(*([0] * 19999 + [6]))), [[-4]])
        self.assertEqual(self.told(["plain A"], together(0)), [[-4]])
        self.assertEqual(ask(together(0)), [[-4]])


class Most(Case):
    def test_no_numbers(self):
        self.assertEqual(self.told(LADDER, most()), [[0]])
        self.assertEqual(self.told(["plain A"], most()), [[0]])
        self.assertEqual(ask(most()), [[0]])

    def test_one(self):
        self.assertEqual(self.told(LADDER, *[most(k) for k in range(6)]), [[1, k] for k in range(6)])

    def test_all_free(self):
        self.assertEqual(self.told(RING, most(*range(12))), [[12] + list(range(12))])
        self.assertEqual(self.told(RING, most(2, 3, 5, 11)), [[4, 2, 3, 5, 11]])

    def test_more_than_together(self):
        self.assertEqual(self.told(LADDER, together(1, 2, 3), most(1, 2, 3)), [[1, 1], [2, 2, 3]])
        self.assertEqual(self.told(LADDER, together(1, 3, 4), most(1, 3, 4)), [[1, 1], [2, 3, 4]])

    def test_of_as_many_the_lower_number_where_two_first_differ(self):
        # Each alone; 0 2, 0 4, 2 3, 3 4 as pairs.
        self.assertEqual(self.told(LADDER, most(0, 1, 3, 5), most(1, 5), most(2, 4)), [[1, 0], [1, 1], [1, 2]])
        self.assertEqual(self.told(LADDER, most(0, 1, 2, 3, 4, 5)), [[2, 0, 2]])
        self.assertEqual(self.told(LADDER, most(1, 2, 3, 4, 5)), [[2, 2, 3]])
        self.assertEqual(self.told(LADDER, most(0, 3, 4, 5)), [[2, 0, 4]])

    def test_the_first_that_differs_goes_ahead_of_the_last(self):
        # 0 3 and 1 2 are as many.
        self.assertEqual(self.told(GRID, most(0, 1, 2, 3), most(1, 2, 3), most(0, 1, 2)),
                         [[2, 0, 3], [2, 1, 2], [2, 1, 2]])

    def test_the_last_two_conflict(self):
        numbers = list(range(1, 13))
        self.assertEqual(self.told(PARTED, most(*numbers)), [[11] + numbers[:11]])

    def test_twelve_and_thirteen(self):
        self.assertEqual(self.told(PARTED, most(*range(12))), [[12] + list(range(12))])
        self.assertEqual(self.told(PARTED, most(*range(13))), [[-1]])
        yard = diamond_yard(4)
        self.assertEqual(self.told(yard, most(*range(12)), most(*range(4, 16))), [[1, 0], [1, 4]])
        self.assertEqual(self.told(yard, most(*range(13)), most(*range(16)), most(*([0] * 20000))), [[-1]] * 3)

    def test_not_rising(self):
        calls = [most(2, 0), most(0, 4, 2), most(4, 2, 0), most(1, 0, 2), most(0, 1, 2, 3, 5, 4)]
        self.assertEqual(self.told(LADDER, *calls), [[-1]] * len(calls))

    def test_a_number_twice(self):
        calls = [most(0, 0), most(0, 2, 2), most(2, 2, 4), most(0, 2, 0)]
        self.assertEqual(self.told(LADDER, *calls), [[-1]] * len(calls))

    def test_none_there(self):
        calls = [most(6), most(HIGHEST), most(0, 6), most(0, 1, 2, HIGHEST), most(6, 7), most(0, 1, 2, 3, 4, 5, 6)]
        self.assertEqual(self.told(LADDER, *calls), [[-4]] * len(calls))
        self.assertEqual(self.told(RING, most(*range(1, 13))), [[-4]])
        self.assertEqual(self.told(["plain A"], most(0)), [[-4]])
        self.assertEqual(ask(most(0)), [[-4]])

    def test_not_rising_goes_ahead_of_none_there(self):
        calls = [most(HIGHEST, 0), most(6, 6), most(HIGHEST, HIGHEST), most(7, 6), most(*range(13))]
        self.assertEqual(self.told(LADDER, *calls), [[-1]] * len(calls))
        self.assertEqual(ask(most(0, 0), most(1, 0), most(*range(13)), most(*range(12))), [[-1], [-1], [-1], [-4]])


if __name__ == "__main__":
    unittest.main()
