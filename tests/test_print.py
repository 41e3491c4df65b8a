"""print: the one form."""

import unittest
from itertools import permutations

from tests.helper import PRINT, ask, printed, read, read_bytes, text_of
from tests.test_read import longest_plan

YARD = [
    "plain B", "point A", "cross C1", "plain D",
    "join B.1 A.0", "join A.1 C1.0", "join A.2 C1.2", "join C1.1 D.0",
    "border B.0", "border D.1",
    "signal B.1", "signal D.0",
]


class OneForm(unittest.TestCase):
    def test_the_bytes(self):
        text = text_of("plain A", "border A.0")
        self.assertEqual(ask(read("plain A", "border A.0"), PRINT), [[1], [19] + text])

    def test_a_plan_without_sections(self):
        self.assertEqual(ask(PRINT, read_bytes([]), PRINT), [[0], [0], [0]])

    def test_the_one_form_stays(self):
        self.assertEqual(printed(*YARD), YARD)

    def test_sections_stay_as_they_stand(self):
        for kinds in permutations(["plain Z", "cross M2", "point A", "plain ABCD"]):
            self.assertEqual(printed(*kinds), list(kinds))

    def test_joins_told_with_the_higher_end_first(self):
        self.assertEqual(
            printed("plain B", "plain A", "join A.0 B.1", "join A.1 B.0"),
            ["plain B", "plain A", "join B.0 A.1", "join B.1 A.0"])

    def test_joins_within_one_section(self):
        self.assertEqual(
            printed("cross A", "join A.3 A.0", "join A.2 A.1"),
            ["cross A", "join A.0 A.3", "join A.1 A.2"])

    def test_joins_by_their_first_ends(self):
        self.assertEqual(
            printed("cross A", "cross B", "join B.3 A.0", "join B.1 B.0", "join A.2 A.3", "join B.2 A.1"),
            ["cross A", "cross B", "join A.0 B.3", "join A.1 B.2", "join A.2 A.3", "join B.0 B.1"])

    def test_sections_order_ends_not_their_names(self):
        self.assertEqual(
            printed("plain Z", "plain A", "border A.1", "border A.0", "border Z.1", "border Z.0"),
            ["plain Z", "plain A", "border Z.0", "border Z.1", "border A.0", "border A.1"])

    def test_the_tenth_section_is_behind_the_second(self):
        sections = [f"plain S{k}" for k in range(12)]
        borders = [f"border S{k}.0" for k in range(12)]
        self.assertEqual(printed(*(sections + borders[::-1])), sections + borders)

    def test_signals_out_of_order(self):
        plan = ["plain B", "plain A", "join B.0 A.0", "join B.1 A.1"]
        signals = ["signal B.0", "signal B.1", "signal A.0", "signal A.1"]
        for order in permutations(signals):
            self.assertEqual(printed(*(plan + list(order))), plan + signals)

    def test_lines_mixed(self):
        mixed = ["plain B", "border B.0", "point A", "join A.0 B.1", "signal B.1", "cross C1", "join C1.2 A.2",
                 "plain D", "border D.1", "join D.0 C1.1", "signal D.0", "join C1.0 A.1"]
        self.assertEqual(printed(*mixed), YARD)

    def test_printed_and_read_it_is_printed_the_same(self):
        for lines in [YARD, YARD[:4] + YARD[7:3:-1] + YARD[:7:-1], longest_plan()]:
            form = printed(*lines)
            self.assertEqual(printed(*form), form)
            self.assertEqual(len(text_of(*form)), len(text_of(*lines)))


if __name__ == "__main__":
    unittest.main()
