"""together, at ordinary inputs, at the edges and at wrong inputs."""

import itertools
import unittest

from tests.slow import BIGGEST, KINDS, ask, ask_round, slow_together


class TogetherTest(unittest.TestCase):
    def told(self, *pairs):
        return ask(("together",) + pairs)[0]

    def test_known(self):
        told = (
            ((2, 3, 3, 5, 2, 7), [23, 105]),
            ((1, 2), [1, 2]),
            ((1, 2, 2, 3), [5, 6]),
            ((3, 4, 5, 6), [11, 12]),
            ((1, 4, 3, 6), [9, 12]),
            ((0, 30, 0, 29, 0, 28), [0, 12180]),
            ((29, 30, 28, 29, 22, 23), [20009, 20010]),
            ((0, 30, 0, 29, 1, 23), [14790, 20010]),
            ((5, 6, 5, 6, 5, 6), [5, 6]),
        )
        for pairs, answer in told:
            self.assertEqual(slow_together(*pairs), answer, pairs)
            self.assertEqual(self.told(*pairs), answer, pairs)

    def test_no_pair(self):
        self.assertEqual(self.told(), [0, 1])

    def test_one_pair(self):
        for m in range(1, 31):
            for a in (0, 1, m - 1, m, m + 1, 7 * m + 3, BIGGEST - 1, BIGGEST):
                self.assertEqual(self.told(a, m), [a % m, m], (a, m))

    def test_two_pairs(self):
        for m in range(1, 31):
            for other in range(1, 31):
                for a, b in ((0, 0), (1, 0), (0, 2), (5, 11), (m, other - 1), (m - 1, other), (BIGGEST, 3)):
                    self.assertEqual(self.told(a, m, b, other), slow_together(a, m, b, other), (a, m, b, other))

    def test_every_two_pairs_of_small_numbers(self):
        for a, m, b, other in itertools.product(range(8), range(1, 8), range(8), range(1, 8)):
            self.assertEqual(self.told(a, m, b, other), slow_together(a, m, b, other), (a, m, b, other))

    def test_three_pairs(self):
        for row in itertools.product((1, 2, 6, 9, 15, 30), repeat=3):
            for a, b, c in ((0, 0, 0), (1, 1, 1), (5, 2, 8), (4, 13, 1), (29, 14, BIGGEST), (31, 7, 61)):
                pairs = (a, row[0], b, row[1], c, row[2])
                self.assertEqual(self.told(*pairs), slow_together(*pairs), pairs)

    def test_three_pairs_with_no_divisor_in_common(self):
        for pairs in ((28, 29, 26, 27, 24, 25), (3, 29, 29, 30, 0, 23), (1, 29, 27, 28, 26, 27), (0, 1, 0, 1, 0, 1),
                      (BIGGEST, 29, BIGGEST, 30, BIGGEST, 19), (100, 23, 200, 29, 300, 30)):
            self.assertEqual(self.told(*pairs), slow_together(*pairs), pairs)
            self.assertGreaterEqual(self.told(*pairs)[0], 0, pairs)

    def test_divisors_in_common_where_there_is_such_a_number(self):
        for pairs, answer in (((1, 4, 3, 6), [9, 12]), ((2, 6, 8, 9), [8, 18]), ((7, 12, 1, 18), [19, 36]),
                              ((1, 2, 1, 4, 1, 8), [1, 8]), ((1, 6, 7, 10, 7, 15), [7, 30]), ((3, 30, 3, 30), [3, 30]),
                              ((33, 30, 3, 30), [3, 30]), ((5, 10, 0, 15, 0, 25), [75, 150])):
            self.assertEqual(slow_together(*pairs), answer, pairs)
            self.assertEqual(self.told(*pairs), answer, pairs)

    def test_no_such_number(self):
        for pairs in ((0, 2, 1, 2), (0, 4, 1, 6), (1, 4, 2, 6), (3, 30, 4, 30), (1, 10, 2, 15, 0, 7),
                      (0, 7, 1, 10, 2, 15), (1, 10, 0, 7, 2, 15), (1, 6, 1, 10, 2, 15), (BIGGEST, 2, 0, 4),
                      (0, 30, 0, 29, 1, 28)):
            self.assertEqual(self.told(*pairs), [-3], pairs)

    def test_a_may_be_m_or_more(self):
        self.assertEqual(self.told(5, 3, 13, 5, 16, 7), [23, 105])
        self.assertEqual(self.told(3, 3, 5, 5), [0, 15])
        self.assertEqual(self.told(BIGGEST, 7, BIGGEST, 9), [BIGGEST % 63, 63])
        self.assertEqual(self.told(BIGGEST, 1), [0, 1])

    def test_a_number_is_left_over(self):
        for row in ((0,), (5,), (BIGGEST,), (1, 2, 3), (2, 3, 3, 5, 2), (2, 3, 3, 5, 2, 7, 1), (1,) * 9, (1,) * 11):
            self.assertEqual(self.told(*row), [-1], row)

    def test_an_m_is_not_1_to_30(self):
        for m in (0, 31, 32, 60, 301, BIGGEST):
            for row in ((1, m), (0, m), (1, 2, 1, m), (1, m, 1, 2), (1, 2, 1, 3, 1, m), (1, 2, 1, m, 1, 3),
                        (1, m, 1, 2, 1, 3), (m, m)):
                self.assertEqual(self.told(*row), [-1], row)

    def test_m_at_its_edges(self):
        self.assertEqual(self.told(7, 1, 31, 30), [1, 30])
        self.assertEqual(self.told(7, 1), [0, 1])
        self.assertEqual(self.told(59, 30), [29, 30])

    def test_more_than_three_pairs(self):
        for row in ((1, 2) * 4, (0, 1) * 4, (1, 2) * 5, (1, 2) * 6, (2, 3, 3, 5, 2, 7, 1, 2), (BIGGEST, 30) * 6):
            self.assertEqual(self.told(*row), [-1], row)

    def test_not_allowed_is_told_ahead_of_no_such_number(self):
        for row in ((0, 2, 1, 2, 5), (0, 2, 1, 2, 0, 0), (0, 2, 1, 2, 0, 31), (0, 0, 0, 2, 1, 2), (0, 31, 0, 2, 1, 2),
                    (0, 2, 1, 2, 0, 3, 0, 5), (0, 2, 1, 2, 0, 2, 1, 2), (0, 2, 1, 2, 0, 2, 1, 2, 0, 2, 1, 2),
                    (0, 2, 1, 2, 0, BIGGEST)):
            self.assertEqual(self.told(*row), [-1], row)

    def test_n_does_not_count(self):
        rows = ((), (2, 3, 3, 5, 2, 7), (BIGGEST, 30), (299, 29, 7, 30), (0, 2, 1, 2), (5,), (1, 31), (1, 2) * 4)
        for n in KINDS:
            for row in rows:
                self.assertEqual(ask_round(n, ("together",) + row), [slow_together(*row)], (n, row))

    def test_n_stays_as_it_is(self):
        for row in ((), (2, 3, 3, 5), (0, 2, 1, 2), (5,), (1, 31), (1, 2) * 4):
            rows = ask_round(10, ("together",) + row, ("units",), ("factors",))
            self.assertEqual(rows[1:], [[4, 1, 3, 7, 9], [2, 2, 1, 5, 1]], row)

    def test_what_stands_behind_it_is_another_call(self):
        for row in ((), (1, 2), (5,), (1, 2) * 6, (1, 2) * 5 + (9,), (0, 2, 1, 2)):
            calls = (("together",) + row, ("together",) + row, ("inverse", 1), ("together",), ("round", 9))
            told = slow_together(*row)
            self.assertEqual(ask(*calls), [told, told, [1], [0, 1], [6]], row)


if __name__ == "__main__":
    unittest.main()
