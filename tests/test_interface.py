"""How the calls and the answers stand in their lists, and what the function leaves alone."""

import builtins
import contextlib
import inspect
import io
import unittest
from unittest import mock

from roundpowers import units
from tests.slow import BIGGEST, ask, written


class ListsTest(unittest.TestCase):
    def test_each_call_as_it_stands_in_the_list(self):
        told = (
            ([0, 10], [1, 4]),
            ([0, 10, 1], [1, 4, 5, 4, 1, 3, 7, 9]),
            ([0, 10, 2, 3, 4], [1, 4, 1, 1]),
            ([0, 10, 3, 3], [1, 4, 1, 4]),
            ([0, 10, 4], [1, 4, 1, 4]),
            ([0, 10, 5], [1, 4, 3, 2, 3, 7]),
            ([0, 10, 6, 3, 7], [1, 4, 1, 3]),
            ([0, 8, 5], [1, 4, 1, 0]),
            ([0, 301], [1, -1]),
            ([3, 2], [1, -6]),
            ([0, 8, 6, 3, 5], [1, 4, 1, -3]),
            ([0, 10, 7, 2, 4], [1, 4, 3, 2, 2, 8]),
            ([0, 10, 7, 2, 3], [1, 4, 1, 0]),
            ([0, 10, 7, 0, 4], [1, 4, 1, -1]),
            ([0, 12, 8], [1, 4, 5, 2, 2, 2, 3, 1]),
            ([0, 1, 8], [1, 1, 1, 0]),
            ([9, 0], [2, 0, 1]),
            ([9, 2, 2, 3], [2, 2, 3]),
            ([9, 6, 2, 3, 3, 5, 2, 7], [2, 23, 105]),
            ([9, 1, 2], [1, -1]),
            ([9, 12, 1, 2, 1, 2, 1, 2, 1, 2, 1, 2, 1, 2], [1, -1]),
            ([9, 4, 0, 2, 1, 2], [1, -3]),
            ([0, 24, 10], [1, 8, 4, 3, 2, 2, 2]),
            ([0, 1, 10], [1, 1, 1, 0]),
            ([0, 10, 11], [1, 4, 7, 3, 1, 1, 2, 1, 4, 2]),
            ([0, 10, 12], [1, 4, 1, 9]),
            ([0, 10, 13, 3], [1, 4, 1, 7]),
            ([0, 10, 13, 5], [1, 4, 1, -6]),
        )
        for calls, answer in told:
            self.assertEqual(units.answers(calls), answer, calls)

    def test_numbers_that_look_like_calls(self):
        self.assertEqual(units.answers([0, 6, 2, 6, 5, 3, 5, 6, 5, 1, 0, 4, 4]),
                         [1, 2, 1, 0, 1, 2, 1, 0, 1, 2, 1, 2])
        calls = [0, 13, 9, 4, 9, 13, 13, 9, 7, 9, 12, 13, 12, 9, 3, 9, 0, 9, 9, 0, 12, 9, 2, 10, 9]
        self.assertEqual(units.answers(calls),
                         [1, 12, 2, 22, 117, 4, 3, 4, 10, 12, 1, 12, 1, -1, 2, 0, 1, 1, 12, 2, 1, 9])

    def test_all_calls_with_refusals_among_them(self):
        self.assertEqual(
            ask(("units",), ("round", 0), ("generators",), ("round", 9), ("order", 3), ("order", 11), ("round", 301),
                ("log", 2, 3), ("log", 4, 2), ("log", 2, 5), ("pow", 11, 2), ("round", BIGGEST), ("exponent",),
                ("units",), ("generators",), ("round", 1), ("units",), ("pow", 5, 0), ("order", 4), ("exponent",),
                ("generators",), ("log", 3, 2), ("round", 300), ("order", 5), ("order", 7), ("generators",),
                ("pow", BIGGEST, BIGGEST), ("round", 2), ("round", 302), ("units",)),
            [[1, 1], [-1], [1, 1], [6], [-6], [6], [-1],
             [-6], [-3], [5], [4], [-1], [6],
             [6, 1, 2, 4, 5, 7, 8], [2, 2, 5], [1], [1, 0], [0], [1], [1],
             [1, 0], [0], [80], [-6], [4], [0],
             [pow(BIGGEST, BIGGEST, 300)], [1], [-1], [1, 1]])

    def test_a_refusal_changes_nothing(self):
        seen = [("units",), ("exponent",), ("generators",), ("pow", 7, 3), ("order", 7), ("log", 7, 7), ("roots", 2, 4),
                ("factors",), ("together", 7, 9), ("parts",), ("orders",), ("product",), ("inverse", 7)]
        for refused in (("round", 0), ("round", 301), ("order", 5), ("log", 2, 1), ("log", 9, 3), ("roots", 0, 3),
                        ("together", 5), ("together", 1, 31), ("together", 0, 2, 1, 2), ("inverse", 2)):
            plain = ask(("round", 10), *seen)
            self.assertEqual(ask(("round", 10), refused, *seen)[2:], plain[1:], refused)

    def test_thirty_long_calls(self):
        for name in ("units", "exponent", "generators", "factors", "parts", "orders", "product"):
            rows = ask(("round", 293), *[(name,)] * 29)
            self.assertEqual(len(rows), 30)
            self.assertEqual(rows[1:], [rows[1]] * 29)


class KindsTest(unittest.TestCase):
    CALLS = (("round", 10), ("units",), ("pow", 3, BIGGEST), ("order", 13), ("order", 5), ("exponent",),
             ("generators",), ("log", 3, 17), ("log", 9, 3), ("roots", BIGGEST, 7), ("roots", 0, 7), ("factors",),
             ("together", 2, 3, BIGGEST, 30), ("together", 0, 2, 1, 2), ("together", 1, 0), ("parts",), ("orders",),
             ("product",), ("inverse", BIGGEST), ("inverse", 13), ("round", 0), ("round", 1), ("units",),
             ("pow", 0, 0), ("inverse", 0))

    def test_takes_one_argument_called_calls(self):
        self.assertEqual(list(inspect.signature(units.answers).parameters), ["calls"])
        self.assertEqual(units.answers(calls=[4]), [1, 1])

    def test_gives_back_a_list_of_ints(self):
        row = units.answers(written(self.CALLS))
        self.assertIs(type(row), list)
        self.assertEqual({type(number) for number in row}, {int})

    def test_the_list_handed_in_is_as_it_was(self):
        calls = written(self.CALLS)
        before = list(calls)
        row = units.answers(calls)
        self.assertEqual(calls, before)
        row.append(5)
        self.assertEqual(calls, before)

    def test_is_not_changed_for_a_while_either(self):
        class Fixed(list):
            def refuse(self, *given):
                raise AssertionError("the list that was handed in is changed")

            append = extend = insert = pop = remove = clear = reverse = sort = refuse
            __setitem__ = __delitem__ = __iadd__ = __imul__ = refuse

        calls = written(self.CALLS)
        self.assertEqual(units.answers(Fixed(calls)), units.answers(calls))

    def test_asked_twice_it_answers_the_same(self):
        calls = written(self.CALLS)
        first = units.answers(calls)
        kept = list(first)
        first.reverse()
        self.assertEqual(units.answers(calls), kept)

    def test_nothing_is_kept_from_one_time_to_the_next(self):
        units.answers([0, 300])
        self.assertEqual(units.answers([1, 4, 5]), [2, 1, 1, 1, 1, 2, 1, 1])

    def test_prints_reads_and_imports_nothing(self):
        def refuse(*given, **named):
            raise AssertionError("printed, read or imported")

        calls = written(self.CALLS)
        out = io.StringIO()
        names = ("print", "open", "input", "__import__")
        with contextlib.redirect_stdout(out), contextlib.redirect_stderr(out), contextlib.ExitStack() as stack:
            for name in names:
                stack.enter_context(mock.patch.object(builtins, name, refuse))
            row = units.answers(calls)
        self.assertEqual(row, units.answers(calls))
        self.assertEqual(out.getvalue(), "")


if __name__ == "__main__":
    unittest.main()
