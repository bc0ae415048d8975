"""roots and inverse, at ordinary inputs, at the edges and at wrong inputs."""

import unittest

from tests.slow import BIGGEST, KINDS, ask, ask_round, slow_inverse, slow_power, slow_roots, slow_units


def counted(row):
    return [len(row)] + row


class RootsTest(unittest.TestCase):
    def test_known(self):
        told = (
            (7, 2, 2, [3, 4]),
            (7, 2, 3, []),
            (7, 3, 1, [1, 2, 4]),
            (8, 2, 1, [1, 3, 5, 7]),
            (8, 2, 4, [2, 6]),
            (8, 2, 0, [0, 4]),
            (8, 3, 0, [0, 2, 4, 6]),
            (9, 2, 0, [0, 3, 6]),
            (9, 3, 8, [2, 5, 8]),
            (10, 2, 5, [5]),
            (10, 2, 4, [2, 8]),
            (10, 2, 6, [4, 6]),
            (12, 2, 4, [2, 4, 8, 10]),
            (12, 2, 2, []),
            (18, 2, 9, [3, 9, 15]),
            (16, 4, 1, [1, 3, 5, 7, 9, 11, 13, 15]),
            (300, 2, 2, []),
            (300, 2, 25, [5, 25, 35, 55, 65, 85, 95, 115, 125, 145, 155, 175, 185, 205, 215, 235, 245, 265, 275, 295]),
        )
        for n, k, a, roots in told:
            self.assertEqual(slow_roots(k, a, n), roots, (n, k, a))
            self.assertEqual(ask_round(n, ("roots", k, a)), [counted(roots)], (n, k, a))

    def test_before_any_round(self):
        for a in (0, 2, BIGGEST - 1):
            self.assertEqual(ask(("roots", 1, a), ("roots", 2, a), ("roots", BIGGEST, a)), [[1, 0]] * 3, a)
        for a in (1, 3, BIGGEST):
            self.assertEqual(ask(("roots", 1, a), ("roots", 2, a), ("roots", BIGGEST, a)), [[1, 1]] * 3, a)
        self.assertEqual(ask(("roots", 0, 1)), [[-1]])

    def test_round_1(self):
        for k in (1, 2, 3, BIGGEST):
            for a in (0, 1, 2, BIGGEST):
                self.assertEqual(ask_round(1, ("roots", k, a)), [[1, 0]], (k, a))

    def test_refuses_k_0(self):
        for n in KINDS:
            for a in (0, 1, 2, n - 1, n, n + 1, BIGGEST):
                self.assertEqual(ask_round(n, ("roots", 0, a)), [[-1]], (n, a))

    def test_k_is_not_told_round_n(self):
        rows = ask_round(5, ("roots", 5, 2), ("roots", 6, 4), ("roots", 10, 4))
        self.assertEqual(rows, [[1, 2], [2, 2, 3], [2, 2, 3]])
        for n in KINDS:
            self.assertEqual(ask_round(n, ("roots", n, 1)), [counted(slow_roots(n, 1, n))], n)

    def test_k_1_is_the_number_itself(self):
        for n in KINDS:
            for a in (0, 1, 2, n - 1, n, n + 1, 5 * n + 3, BIGGEST):
                self.assertEqual(ask_round(n, ("roots", 1, a)), [[1, a % n]], (n, a))

    def test_a_that_is_no_unit_is_not_refused(self):
        for n in KINDS:
            units = slow_units(n)
            others = [a for a in range(n) if a not in units]
            for a in others[:6] + others[-6:]:
                for k in (1, 2, 3, 7):
                    self.assertEqual(ask_round(n, ("roots", k, a)), [counted(slow_roots(k, a, n))], (n, k, a))

    def test_every_n_against_the_slow_count(self):
        for n in range(1, 301):
            for k in (1, 2, 3, 4):
                powers = [slow_power(b, k, n) for b in range(n)]
                for a in (0, 1, 2, 4, n // 2, n - 1, n, n + 1, 2 * n + 9):
                    roots = [b for b in range(n) if powers[b] == a % n]
                    self.assertEqual(ask_round(n, ("roots", k, a)), [counted(roots)], (n, k, a))

    def test_every_a_for_small_n(self):
        for n in list(range(1, 41)) + [105, 128]:
            for k in (2, 3, 6):
                powers = [slow_power(b, k, n) for b in range(n)]
                for a in range(n + 2):
                    roots = [b for b in range(n) if powers[b] == a % n]
                    self.assertEqual(ask_round(n, ("roots", k, a)), [counted(roots)], (n, k, a))

    def test_big_k_and_a(self):
        for n in KINDS:
            for k in (255, 256, 65536, 2147483648, BIGGEST - 1, BIGGEST):
                for a in (0, 1, 3, n - 1, n, n + 4, BIGGEST - 1, BIGGEST):
                    self.assertEqual(ask_round(n, ("roots", k, a)), [counted(slow_roots(k, a, n))], (n, k, a))

    def test_a_unit_has_no_roots_or_as_many_as_1(self):
        for n in KINDS:
            for k in (2, 3, 4, BIGGEST):
                count = ask_round(n, ("roots", k, 1))[0][0]
                for a in slow_units(n)[:25]:
                    self.assertIn(ask_round(n, ("roots", k, a))[0][0], (0, count), (n, k, a))


class InverseTest(unittest.TestCase):
    def test_known(self):
        for n, a, answer in ((2, 1, 1), (4, 3, 3), (7, 3, 5), (7, 5, 3), (8, 5, 5), (9, 2, 5), (10, 3, 7), (18, 5, 11),
                             (16, 3, 11), (105, 2, 53), (293, 2, 147), (300, 7, 43), (300, 299, 299), (300, 1, 1)):
            self.assertEqual(ask_round(n, ("inverse", a)), [[answer]], (n, a))

    def test_before_any_round(self):
        self.assertEqual(ask(("inverse", 1), ("inverse", 3), ("inverse", BIGGEST)), [[1], [1], [1]])
        self.assertEqual(ask(("inverse", 0), ("inverse", 2), ("inverse", BIGGEST - 1)), [[-6], [-6], [-6]])

    def test_round_1(self):
        for a in (0, 1, 2, 300, BIGGEST):
            self.assertEqual(ask_round(1, ("inverse", a)), [[0]], a)

    def test_refuses_what_is_no_unit(self):
        for n, a in ((2, 0), (4, 2), (7, 0), (7, 7), (7, 14), (8, 6), (9, 3), (10, 5), (10, 12), (16, 0), (105, 14),
                     (300, 0), (300, 3), (300, 300), (300, 302), (300, BIGGEST)):
            self.assertEqual(ask_round(n, ("inverse", a)), [[-6]], (n, a))

    def test_every_number_below_n_for_every_n(self):
        for n in range(1, 301):
            # A line has at most 30 calls.
            for start in range(0, n, 29):
                numbers = range(start, min(start + 29, n))
                calls = [("inverse", a) for a in numbers]
                self.assertEqual(ask_round(n, *calls), [[slow_inverse(a, n)] for a in numbers], n)

    def test_numbers_of_n_or_more(self):
        for n in range(1, 301):
            numbers = (n, n + 1, 2 * n - 1, 5 * n + 7, 65537, BIGGEST - 1, BIGGEST)
            calls = [("inverse", a) for a in numbers]
            self.assertEqual(ask_round(n, *calls), [[slow_inverse(a % n, n)] for a in numbers], n)


if __name__ == "__main__":
    unittest.main()
