"""section, end and counts."""

import unittest

from tests.helper import COUNTS, HIGHEST, ask, diamonds, end, read, section
from tests.test_read import longest_plan

YARD = read(
    "plain B", "point A", "cross C1X9", "plain D",
    "join A.0 B.1", "join A.1 C1X9.0", "join C1X9.1 D.0",
    "signal D.0", "signal B.1", "border D.1", "border B.0")


class Section(unittest.TestCase):
    def told(self, number):
        return ask(YARD, section(number))[1]

    def test_each_kind(self):
        self.assertEqual(self.told(0), [0, 1, ord("B")])
        self.assertEqual(self.told(1), [1, 1, ord("A")])
        self.assertEqual(self.told(2), [2, 4, ord("C"), ord("1"), ord("X"), ord("9")])
        self.assertEqual(self.told(3), [0, 1, ord("D")])

    def test_none_there(self):
        self.assertEqual(self.told(4), [-4])
        self.assertEqual(self.told(HIGHEST), [-4])
        self.assertEqual(ask(section(0)), [[-4]])

    def test_the_sixteenth(self):
        told = ask(read(*longest_plan()), section(15), section(16))
        self.assertEqual(told[1:], [[0, 4] + list(b"N015"), [-4]])


class End(unittest.TestCase):
    def told(self, number, digit):
        return ask(YARD, end(number, digit))[1]

    def test_nothing_there(self):
        self.assertEqual(self.told(1, 2), [0])
        self.assertEqual(self.told(2, 2), [0])
        self.assertEqual(self.told(2, 3), [0])
        self.assertEqual(ask(read("plain A"), end(0, 0), end(0, 1)), [[1], [0], [0]])

    def test_joined_without_a_signal(self):
        self.assertEqual(self.told(1, 0), [1, 0, 1, 0])
        self.assertEqual(self.told(1, 1), [1, 2, 0, 0])
        self.assertEqual(self.told(2, 0), [1, 1, 1, 0])
        self.assertEqual(self.told(2, 1), [1, 3, 0, 0])

    def test_joined_with_a_signal(self):
        self.assertEqual(self.told(0, 1), [1, 1, 0, 1])
        self.assertEqual(self.told(3, 0), [1, 2, 1, 2])

    def test_borders(self):
        self.assertEqual(self.told(0, 0), [2, 0])
        self.assertEqual(self.told(3, 1), [2, 1])

    def test_no_such_end(self):
        for number, first in enumerate([2, 3, 4, 2, 0]):
            self.assertEqual(self.told(number, first), [-4])
            self.assertEqual(self.told(number, HIGHEST), [-4])
            if first > 0:
                self.assertNotEqual(self.told(number, first - 1), [-4])
        self.assertEqual(self.told(HIGHEST, 0), [-4])
        self.assertEqual(self.told(HIGHEST, HIGHEST), [-4])
        self.assertEqual(ask(end(0, 0)), [[-4]])

    def test_numbers_of_signals_go_by_ends(self):
        told = ask(
            read("plain A", "plain B", "join A.0 B.1", "join A.1 B.0",
                 "signal B.1", "signal B.0", "signal A.1", "signal A.0"),
            end(0, 0), end(0, 1), end(1, 0), end(1, 1))
        self.assertEqual(told[1:], [[1, 1, 1, 1], [1, 1, 0, 2], [1, 0, 1, 3], [1, 0, 0, 4]])

    def test_numbers_of_borders_go_by_ends(self):
        told = ask(
            read("plain B", "plain A", "border A.1", "border B.1", "border A.0", "border B.0"),
            end(0, 0), end(0, 1), end(1, 0), end(1, 1))
        self.assertEqual(told[1:], [[2, 0], [2, 1], [2, 2], [2, 3]])

    def test_ends_of_one_section_joined(self):
        told = ask(read("plain A", "join A.0 A.1", "signal A.1"), end(0, 0), end(0, 1))
        self.assertEqual(told[1:], [[1, 0, 1, 0], [1, 0, 0, 1]])


class Counts(unittest.TestCase):
    def test_without_sections(self):
        self.assertEqual(ask(COUNTS), [[0, 0, 0, 0]])

    def test_each(self):
        self.assertEqual(ask(YARD, COUNTS), [[4], [4, 3, 2, 2]])

    def test_full_ones(self):
        self.assertEqual(ask(read(*longest_plan()), COUNTS)[1], [16, 26, 0, 12])
        crosses = [f"cross S{k}" for k in range(16)]
        joins = [f"join S{k}.{d} S{k}.{d + 1}" for k in range(16) for d in (0, 2)]
        self.assertEqual(ask(read(*(crosses + joins)), COUNTS)[1], [16, 32, 0, 0])
        plains = [f"plain S{k}" for k in range(16)]
        borders = [f"border S{k}.{d}" for k in range(16) for d in range(2)]
        self.assertEqual(ask(read(*(plains + borders)), COUNTS)[1], [16, 0, 32, 0])

    def test_a_join_is_counted_once(self):
        self.assertEqual(ask(read("plain A", "join A.1 A.0"), COUNTS)[1], [1, 1, 0, 0])

    def test_more_than_64_routes_refuse_none_of_these(self):
        lines = diamonds(7) + ["plain A", "plain B", "join A.1 F0.0", "join G6.0 B.0", "signal A.1"]
        told = ask(read(*lines), COUNTS, section(14), end(14, 1), [5])
        self.assertEqual(told, [[16], [16, 22, 0, 1], [0, 1, 65], [1, 0, 0, 1], [-9]])


if __name__ == "__main__":
    unittest.main()
