"""answers: the layout of calls and answers, and that nothing is changed or kept."""

import contextlib
import io
import unittest

from tests.helper import (
    COUNTS, LADDER, PRINT, ROUTES, ask, conflict, diamond_yard, end, most, points, read, read_bytes, route, section,
    starting, text_of, together)
from yardplans.box import answers


class Layout(unittest.TestCase):
    def test_one_call_each(self):
        self.assertEqual(answers([0, 0]), [1, 0])
        self.assertEqual(answers([0, 2, 65, 10]), [3, -6, 0, 1])
        self.assertEqual(answers([1]), [1, 0])
        self.assertEqual(answers([2, 0]), [1, -4])
        self.assertEqual(answers([3, 0, 0]), [1, -4])
        self.assertEqual(answers([4]), [4, 0, 0, 0, 0])
        self.assertEqual(answers([5]), [1, 0])
        self.assertEqual(answers([6, 0]), [1, -4])
        self.assertEqual(answers([7, 0]), [1, -4])
        self.assertEqual(answers([8, 0, 0]), [1, -4])
        self.assertEqual(answers([9, 0]), [1, -4])
        self.assertEqual(answers([10, 0]), [1, 0])
        self.assertEqual(answers([10, 1, 0]), [1, -4])
        self.assertEqual(answers([11, 0]), [1, 0])
        self.assertEqual(answers([11, 1, 0]), [1, -4])

    def test_several_calls(self):
        text = text_of("plain A")
        calls = [0, len(text)] + text + [2, 0, 3, 0, 1, 4, 1, 5]
        self.assertEqual(answers(calls), [1, 1, 3, 0, 1, 65, 1, 0, 4, 1, 0, 0, 0, 9, 8] + text + [1, 0])

    def test_several_calls_for_routes(self):
        text = text_of(*LADDER)
        calls = [0, len(text)] + text + [6, 0, 7, 1, 8, 1, 5, 8, 0, 2, 9, 3, 10, 3, 1, 2, 3, 11, 3, 1, 2, 3, 10, 0, 5]
        self.assertEqual(answers(calls), [
            1, 6, 8, 0, 2, 2, 0, 1, 4, 0, 1, 5, 2, 2, 2, 3, 2, 2, 1, 2, 1, 0, 3, 2, 4, 5, 2, 1, 1, 3, 2, 2, 3, 1, 0,
            1, 6])

    def test_numbers_within_a_row_are_no_calls(self):
        self.assertEqual(answers([0, 6, 0, 1, 2, 3, 4, 5, 4]), [3, -6, 0, 1, 4, 0, 0, 0, 0])
        self.assertEqual(answers([10, 4, 1, 2, 3, 11, 4]), [1, -4, 4, 0, 0, 0, 0])
        self.assertEqual(answers([11, 4, 0, 1, 2, 3, 4]), [1, -4, 4, 0, 0, 0, 0])

    def test_a_long_row(self):
        self.assertEqual(ask(read_bytes([1] * 20000), COUNTS), [[-2], [0, 0, 0, 0]])
        self.assertEqual(ask(together(*[1] * 20000), COUNTS), [[-4], [0, 0, 0, 0]])
        self.assertEqual(ask(most(*[1] * 20000), COUNTS), [[-1], [0, 0, 0, 0]])

    def test_a_refusal_is_its_number_alone(self):
        told = ask(section(7), end(7, 7), read_bytes([65] * 1025), read(*diamond_yard(7)), ROUTES)
        self.assertEqual(told, [[-4], [-4], [-2], [16], [-9]])

    def test_400_calls(self):
        calls = [read("plain A", "plain B", "join A.1 B.0", "signal A.1")]
        expected = [[2]]
        while len(calls) < 400:
            calls += [ROUTES, COUNTS, end(0, 1), section(1), section(2), COUNTS, ROUTES]
            expected += [[1], [2, 1, 0, 1], [1, 1, 0, 1], [0, 1, 66], [-4], [2, 1, 0, 1], [1]]
        self.assertEqual(ask(*calls[:400]), expected[:400])

    def test_400_reads(self):
        calls = [read("plain A") if k % 2 == 0 else read_bytes([]) for k in range(399)] + [PRINT]
        self.assertEqual(ask(*calls), [[1 - k % 2] for k in range(399)] + [[8] + text_of("plain A")])

    def test_400_times_more_than_64_routes(self):
        self.assertEqual(ask(read(*diamond_yard(7)), *([ROUTES] * 399)), [[16]] + [[-9]] * 399)

    def test_whole_numbers_alone(self):
        told = answers([number for call in [read(*diamond_yard(2)), PRINT, COUNTS, ROUTES, section(0), end(0, 0),
                                            end(4, 0), end(4, 1), route(0), points(3), conflict(0, 1),
                                            conflict(1, 1), starting(0), together(0, 1), most(0, 1), route(4),
                                            read_bytes([1])] for number in call])
        self.assertIs(type(told), list)
        self.assertEqual({type(number) for number in told}, {int})


class NothingKept(unittest.TestCase):
    def setUp(self):
        parts = [read(*diamond_yard(2)), PRINT, COUNTS, ROUTES, read("plain A", "x"), section(0), end(4, 1), PRINT,
                 read(*LADDER), route(5), points(5), conflict(5, 1), starting(3), together(4, 4, 0, 1),
                 together(2, 9), most(1, 2, 3), most(*range(6)), most(2, 1), together(3, 2, 1), ROUTES]
        self.calls = [number for call in parts for number in call]

    def test_what_is_handed_in_stays(self):
        before = list(self.calls)
        answers(self.calls)
        self.assertEqual(self.calls, before)

    def test_what_is_handed_in_is_never_changed(self):
        class Fixed(list):
            def refuse(self, *given):
                raise AssertionError("changed")
            append = extend = insert = pop = remove = clear = sort = reverse = refuse
            __setitem__ = __delitem__ = __iadd__ = __imul__ = refuse

        self.assertEqual(answers(Fixed(self.calls)), answers(self.calls))

    def test_as_if_for_the_first_time(self):
        first = answers(self.calls)
        again = list(first)
        first.clear()
        self.assertEqual(answers(self.calls), again)
        self.assertEqual(answers([4, 1, 5, 6, 0]), [4, 0, 0, 0, 0, 1, 0, 1, 0, 1, -4])

    def test_nothing_is_printed(self):
        out = io.StringIO()
        with contextlib.redirect_stdout(out), contextlib.redirect_stderr(out):
            answers(self.calls)
        self.assertEqual(out.getvalue(), "")


if __name__ == "__main__":
    unittest.main()
