"""read: plans' texts and their first faults."""

import unittest

from tests.helper import COUNTS, PRINT, ask, end, read, read_bytes, section, text_of

FULL_NAMES = [f"S{k}" for k in range(16)]


def ring(count):
    """Plain sections S0 .. in a ring, each joined to the next one."""
    lines = [f"plain S{k}" for k in range(count)]
    return lines + [f"join S{k}.1 S{(k + 1) % count}.0" for k in range(count)]


class FaultCase(unittest.TestCase):
    def fault(self, lines, line, kind):
        """The text of the lines has this first fault."""
        self.assertEqual(ask(read(*lines)), [[-6, line, kind]], lines)

    def bytes_fault(self, text, line, kind):
        self.assertEqual(ask(read_bytes(text)), [[-6, line, kind]], text)

    def fine(self, lines, sections):
        self.assertEqual(ask(read(*lines)), [[sections]], lines)


class Plans(FaultCase):
    def test_each_kind_of_line(self):
        self.fine(["plain A", "point B", "cross C", "join A.1 B.0", "border A.0", "signal A.1"], 3)

    def test_other_orders_of_lines(self):
        self.fine(["plain A", "border A.0", "point B", "join B.0 A.1", "signal A.1", "cross C"], 3)
        self.fine(["cross C", "point B", "plain A", "join B.0 A.1", "signal A.1", "border A.0"], 3)

    def test_no_bytes_are_a_plan(self):
        self.assertEqual(ask(read("plain A"), read_bytes([]), COUNTS), [[1], [0], [0, 0, 0, 0]])

    def test_all_ends_of_each_kind_can_be_joined(self):
        self.fine(["plain A", "point B", "cross C", "join A.0 C.0", "join A.1 C.1", "join B.0 C.2",
                   "join B.1 C.3"], 3)
        self.fine(["point B", "cross C", "join B.0 B.1", "join B.2 C.3"], 2)

    def test_ends_of_one_section_can_be_joined(self):
        self.fine(["plain A", "join A.0 A.1"], 1)

    def test_both_ends_can_be_borders(self):
        self.fine(["plain A", "border A.0", "border A.1"], 1)

    def test_names(self):
        self.fine(["plain A", "plain Z", "plain ABCD", "plain A000", "plain Z9Z9", "plain A1"], 6)

    def test_a_read_takes_the_place_of_the_one_before(self):
        told = ask(read("plain A", "plain B", "border A.0"), read("cross C"), COUNTS, section(0), section(1))
        self.assertEqual(told, [[2], [1], [1, 0, 0, 0], [2, 1, 67], [-4]])


class NoSuchLine(FaultCase):
    def test_words(self):
        for line in ["", " ", "plane A", "Plain A", "PLAIN A", "plai A", "plains A", "plain", "plain ", "join",
                     "border", "signal", "A", "A.1", "section A", "routes"]:
            self.fault(["plain A", line], 1, 1)

    def test_blanks(self):
        for line in [" plain B", "plain B ", "plain  B", "plain\tB", "plain B\r", "join A.0  A.1", "join A.0 A.1 ",
                     "border  A.0", " border A.0", "border A.0 ", "signal A.0 ", "plainB", "join A.0A.1"]:
            self.fault(["plain A", line], 1, 1)

    def test_how_many_words(self):
        for line in ["plain B C", "point B C", "cross B C", "join A.0", "join A.0 A.1 A.1", "border A.0 A.1",
                     "signal A.0 A.1", "border", "border "]:
            self.fault(["plain A", line], 1, 1)

    def test_names(self):
        for name in ["ABCDE", "1", "1A", "0ABC", "a", "Ab", "aB", "ABCd", "A-B", "A_B", "A.B", "A.1", "@", "[", "A@",
                     "A[", "A/", "A:", "`", "{"]:
            for kind in ["plain", "point", "cross"]:
                self.fault([f"{kind} {name}"], 0, 1)

    def test_ends(self):
        for word in ["A", "A.", ".0", "A0", "A,0", "A.4", "A.9", "A./", "A.00", "A.01", "A..0", "A.0.0", "a.0",
                     "1.0", "ABCDE.0", ".", "A.A", "A.-1", "."]:
            self.fault(["plain A", f"border {word}"], 1, 1)
            self.fault(["plain A", f"signal {word}"], 1, 1)
            self.fault(["plain A", f"join {word} A.1"], 1, 1)
            self.fault(["plain A", f"join A.1 {word}"], 1, 1)

    def test_bytes_that_stand_in_no_line(self):
        for byte in [0, 9, 11, 13, 31, 33, 127, 128, 193, 255]:
            self.bytes_fault([byte], 0, 1)
            self.bytes_fault([byte, 10], 0, 1)
            self.bytes_fault(text_of("plain A") + [byte], 1, 1)
            self.bytes_fault(text_of("plain A")[:-1] + [byte, 10], 0, 1)
            self.bytes_fault(text_of("plain")[:-1] + [byte, 65, 10], 0, 1)
            self.bytes_fault([byte] + text_of("plain A"), 0, 1)

    def test_empty_lines(self):
        self.bytes_fault([10], 0, 1)
        self.bytes_fault(text_of("plain A", ""), 1, 1)
        self.bytes_fault(text_of("", "plain A"), 0, 1)

    def test_the_text_ends_within_a_line(self):
        whole = text_of("plain A", "plain BC")
        for cut in range(1, len(whole)):
            if cut < 8:
                self.bytes_fault(whole[:cut], 0, 1)
            elif cut > 8:
                self.bytes_fault(whole[:cut], 1, 1)
        self.assertEqual(ask(read_bytes(whole[:8]), read_bytes(whole)), [[1], [2]])

    def test_a_text_that_ends_within_a_wrong_line_has_kind_1(self):
        self.bytes_fault(text_of("plain A", "plain A")[:-1], 1, 1)
        self.bytes_fault(text_of("plain A", "border B.0")[:-1], 1, 1)


class OtherKinds(FaultCase):
    def test_kind_2(self):
        for first in ["plain", "point", "cross"]:
            for second in ["plain", "point", "cross"]:
                self.fault([f"{first} AB", "plain A", f"{second} AB"], 2, 2)

    def test_kind_3_no_such_section(self):
        for line in ["border B.0", "signal B.0", "join A.0 B.0", "join B.0 A.0", "join B.0 C.0", "border AB.0"]:
            self.fault(["plain A", line, "plain B"], 1, 3)

    def test_kind_3_no_such_end(self):
        lines = ["plain A", "point B", "cross C"]
        for word in ["A.2", "A.3", "B.3"]:
            for line in [f"border {word}", f"signal {word}", f"join {word} C.3", f"join C.3 {word}"]:
                self.fault(lines + [line], 3, 3)

    def test_kind_4_of_join(self):
        lines = ["plain A", "plain B", "plain C", "join A.1 B.0", "border A.0"]
        for line in ["join A.1 B.0", "join B.0 A.1", "join A.1 C.0", "join C.0 A.1", "join B.0 C.0", "join C.0 B.0",
                     "join A.0 C.0", "join C.0 A.0", "join C.1 C.1", "join C.0 C.0"]:
            self.fault(lines + [line], 5, 4)

    def test_kind_4_of_join_at_points_and_crosses(self):
        self.fault(["point A", "cross B", "join A.2 B.3", "join A.0 B.3"], 3, 4)
        self.fault(["point A", "join A.2 A.2"], 1, 4)
        self.fault(["cross A", "join A.3 A.3"], 1, 4)

    def test_kind_4_of_border(self):
        lines = ["plain A", "plain B", "join A.1 B.0", "border A.0"]
        for word in ["A.0", "A.1", "B.0"]:
            self.fault(lines + [f"border {word}"], 4, 4)

    def test_kind_4_of_signal(self):
        self.fault(["plain A", "plain B", "join A.1 B.0", "signal A.1", "signal B.0", "signal A.1"], 5, 4)

    def test_kind_5(self):
        self.fault(["plain A", "signal A.1"], 1, 5)
        self.fault(["plain A", "border A.1", "signal A.1"], 2, 5)
        self.fault(["plain A", "plain B", "join A.1 B.0", "signal A.0", "join A.0 B.1"], 3, 5)

    def test_kind_6(self):
        self.fault(["point A", "border A.0"], 1, 6)
        self.fault(["cross A", "border A.3"], 1, 6)
        self.fault(["plain A", "point B", "join A.0 B.2", "signal B.2"], 3, 6)
        self.fault(["plain A", "cross B", "join A.0 B.3", "signal B.3"], 3, 6)

    def test_kind_7_of_sections(self):
        lines = [f"plain {name}" for name in FULL_NAMES]
        self.fine(lines, 16)
        for kind in ["plain", "point", "cross"]:
            self.fault(lines + [f"{kind} T"], 16, 7)

    def test_kind_7_of_signals(self):
        signals = [f"signal S{k}.{digit}" for k in range(7) for digit in range(2)]
        self.fine(ring(7) + signals[:12], 7)
        self.fault(ring(7) + signals[:13], 26, 7)

    def test_joins_and_borders_are_never_too_many(self):
        self.fine([f"cross S{k}" for k in range(16)] + [f"join S{k}.{d} S{k}.{d + 1}" for k in range(16)
                                                       for d in (0, 2)], 16)
        self.fine([f"plain S{k}" for k in range(16)] + [f"border S{k}.{d}" for k in range(16) for d in range(2)], 16)


class LowestKindAndFirstLine(FaultCase):
    def test_two_faults_in_one_line(self):
        full = [f"plain {name}" for name in FULL_NAMES]
        self.fault(full + ["plain S3"], 16, 2)
        self.fault(full + ["plain s3"], 16, 1)
        self.fault(["plain A", "border B.4"], 1, 1)
        self.fault(["plain A", "plain B", "join A.1 B.0", "join A.1 C.0"], 3, 3)
        self.fault(["plain A", "plain B", "join A.1 B.0", "join C.0 A.1"], 3, 3)
        self.fault(["plain A", "join A.2 A.2"], 1, 3)
        self.fault(["point A", "plain B", "join A.0 B.0", "border A.0"], 3, 4)
        self.fault(["point A", "signal A.0"], 1, 5)

    def test_two_faults_in_a_signal_too_many(self):
        signals = [f"signal S{k}.{digit}" for k in range(6) for digit in range(2)]
        lines = ring(6) + ["plain A", "point P", "plain Q", "join P.0 Q.0"] + signals
        count = len(lines)
        self.fault(lines + ["signal S0.0"], count, 4)
        self.fault(lines + ["signal A.0"], count, 5)
        self.fault(lines + ["signal P.1"], count, 5)
        self.fault(lines + ["signal P.0"], count, 6)
        self.fault(lines + ["signal Q.0"], count, 7)
        self.fault(lines + ["signal X.0"], count, 3)
        self.fault(lines + ["signal Q.4"], count, 1)

    def test_two_wrong_lines(self):
        self.fault(["plain A", "border A.2", "plain a"], 1, 3)
        self.fault(["point A", "border A.0", "point A", "x"], 1, 6)
        self.bytes_fault(text_of("plain A", "signal A.0") + [65], 1, 5)

    def test_a_line_speaks_of_lines_before_alone(self):
        self.fault(["border A.0", "plain A"], 0, 3)
        self.fault(["plain A", "join A.1 B.0", "plain B"], 1, 3)
        self.fault(["plain A", "plain B", "signal A.1", "join A.1 B.0"], 2, 5)


class Refusals(FaultCase):
    def test_more_than_1024_bytes(self):
        fine = text_of("plain A")
        self.bytes_fault(fine * 128, 1, 2)
        self.assertEqual(ask(read_bytes(fine * 128 + [10])), [[-2]])
        self.assertEqual(ask(read_bytes([10] * 1025)), [[-2]])
        self.assertEqual(ask(read_bytes([10] * 1024)), [[-6, 0, 1]])
        self.assertEqual(ask(read_bytes([65] * 5000)), [[-2]])

    def test_the_longest_plan(self):
        self.assertEqual(ask(read(*longest_plan()), COUNTS), [[16], [16, 26, 0, 12]])

    def test_a_refused_read_leaves_the_plan(self):
        first = read("plain A", "cross B", "join A.0 B.0", "border A.1")
        before = ask(first, PRINT, COUNTS, end(0, 0), end(0, 1), section(1))
        for bad in [read_bytes([0] * 1025), read("plain C", "plain D", "plain D"), read_bytes([1]),
                    read_bytes(text_of("point A", "point B", "plain C")[:-1])]:
            after = ask(first, bad, PRINT, COUNTS, end(0, 0), end(0, 1), section(1))
            self.assertLess(after[1][0], 0)
            self.assertEqual(after[:1] + after[2:], before)


def longest_plan():
    """Lines of a plan of 838 bytes: no plan's text is longer, so all of 1,024 have a fault."""
    names = [f"N{k:03d}" for k in range(16)]
    lines = [f"cross {name}" for name in names[:10]] + [f"plain {name}" for name in names[10:]]
    ends = [f"{name}.{digit}" for name in names[:10] for digit in range(4)]
    ends += [f"{name}.{digit}" for name in names[10:] for digit in range(2)]
    joins = [f"join {ends[k]} {ends[-1 - k]}" for k in range(len(ends) // 2)]
    return lines + joins + [f"signal {name}.{digit}" for name in names[10:] for digit in range(2)]


if __name__ == "__main__":
    unittest.main()
