"""round, units, pow, order, exponent, generators and log, at ordinary inputs, at the edges and at wrong inputs."""

import unittest

from tests.slow import (BIGGEST, KINDS, ask, ask_round, has_generator, slow_exponent, slow_generators, slow_log,
                        slow_order, slow_power, slow_units)


class RoundTest(unittest.TestCase):
    def test_answers_how_many_units(self):
        told = {1: 1, 2: 1, 3: 2, 4: 2, 7: 6, 8: 4, 9: 6, 10: 4, 12: 4, 16: 8, 18: 6, 25: 20, 256: 128, 293: 292,
                299: 264, 300: 80}
        for n, count in told.items():
            self.assertEqual(ask(("round", n)), [[count]], n)

    def test_every_n(self):
        for n in range(1, 301):
            self.assertEqual(ask(("round", n)), [[len(slow_units(n))]], n)

    def test_refuses_what_is_not_1_to_300(self):
        for n in (0, 301, 302, 600, 65536, BIGGEST):
            self.assertEqual(ask(("round", n)), [[-1]], n)

    def test_n_is_as_it_was_after_a_refusal(self):
        for n in (0, 301, BIGGEST):
            self.assertEqual(ask(("round", n), ("units",)), [[-1], [1, 1]], n)
            self.assertEqual(ask(("round", 10), ("round", n), ("units",)), [[4], [-1], [4, 1, 3, 7, 9]], n)

    def test_is_not_told_round_the_n_before(self):
        self.assertEqual(ask(("round", 5), ("round", 7), ("exponent",)), [[4], [6], [6]])
        self.assertEqual(ask(("round", 300), ("round", 301), ("pow", 299, 1)), [[80], [-1], [299]])


class BeforeAnyRoundTest(unittest.TestCase):
    def test_n_is_2(self):
        told = (
            (("units",), [1, 1]),
            (("pow", 3, 5), [1]),
            (("pow", 2, 1), [0]),
            (("order", 1), [1]),
            (("order", 2), [-6]),
            (("exponent",), [1]),
            (("generators",), [1, 1]),
            (("log", 1, 1), [0]),
            (("log", 3, 5), [0]),
            (("log", 1, 0), [-6]),
        )
        for call, answer in told:
            self.assertEqual(ask(call), [answer], call)


class UnitsTest(unittest.TestCase):
    def test_known(self):
        told = {1: [0], 2: [1], 4: [1, 3], 7: [1, 2, 3, 4, 5, 6], 8: [1, 3, 5, 7], 9: [1, 2, 4, 5, 7, 8],
                10: [1, 3, 7, 9], 12: [1, 5, 7, 11], 18: [1, 5, 7, 11, 13, 17]}
        for n, units in told.items():
            self.assertEqual(ask_round(n, ("units",)), [[len(units)] + units], n)

    def test_every_n(self):
        for n in range(1, 301):
            units = slow_units(n)
            self.assertEqual(ask_round(n, ("units",)), [[len(units)] + units], n)


class PowTest(unittest.TestCase):
    def test_known(self):
        for n, a, k, answer in ((10, 3, 4, 1), (10, 2, 5, 2), (7, 3, 3, 6), (300, 7, 2, 49), (8, 2, 3, 0),
                                (9, 5, 1, 5)):
            self.assertEqual(ask_round(n, ("pow", a, k)), [[answer]], (n, a, k))

    def test_the_power_0_is_1_round_n(self):
        for n in KINDS:
            for a in (0, 1, n - 1, n, n + 1, BIGGEST):
                self.assertEqual(ask_round(n, ("pow", a, 0)), [[0 if n == 1 else 1]], (n, a))

    def test_the_power_1_is_a_round_n(self):
        for n in KINDS:
            for a in (0, 1, n - 1, n, n + 1, 7 * n + 2, BIGGEST):
                self.assertEqual(ask_round(n, ("pow", a, 1)), [[a % n]], (n, a))

    def test_powers_of_0_and_of_n(self):
        for n in KINDS:
            for k in (1, 2, BIGGEST):
                self.assertEqual(ask_round(n, ("pow", 0, k), ("pow", n, k)), [[0], [0]], (n, k))

    def test_small_powers_against_the_slow_count(self):
        for n in KINDS:
            for a in (0, 1, 2, 3, 5, n - 1, n, n + 2, 3 * n + 5):
                calls = [("pow", a, k) for k in range(20)]
                self.assertEqual(ask_round(n, *calls), [[slow_power(a, k, n)] for k in range(20)], (n, a))

    def test_big_powers(self):
        for n in KINDS:
            for a in (0, 1, 2, 3, 5, n - 1, n, n + 2, 65537, BIGGEST):
                for k in (255, 256, 65535, 2147483648, BIGGEST - 1, BIGGEST):
                    self.assertEqual(ask_round(n, ("pow", a, k)), [[pow(a, k, n)]], (n, a, k))

    def test_k_is_not_told_round_n(self):
        self.assertEqual(ask_round(5, ("pow", 2, 5), ("pow", 2, 7)), [[2], [3]])


class OrderTest(unittest.TestCase):
    def test_known(self):
        for n, a, answer in ((1, 0, 1), (2, 1, 1), (4, 3, 2), (7, 3, 6), (7, 2, 3), (8, 3, 2), (9, 2, 6), (10, 9, 2),
                             (300, 7, 4), (300, 17, 20), (256, 3, 64)):
            self.assertEqual(ask_round(n, ("order", a)), [[answer]], (n, a))

    def test_every_number_below_n(self):
        for n in KINDS:
            units = slow_units(n)
            for a in range(n):
                answer = slow_order(a, n) if a in units else -6
                self.assertEqual(ask_round(n, ("order", a)), [[answer]], (n, a))

    def test_numbers_of_n_or_more(self):
        for n in KINDS:
            units = slow_units(n)
            for a in (n, n + 1, 2 * n - 1, 5 * n + 7, BIGGEST - 1, BIGGEST):
                answer = slow_order(a, n) if a % n in units else -6
                self.assertEqual(ask_round(n, ("order", a)), [[answer]], (n, a))

    def test_refuses_what_is_no_unit(self):
        for n, a in ((2, 0), (4, 2), (7, 0), (7, 7), (8, 6), (9, 3), (10, 5), (10, 12), (300, 3), (300, BIGGEST)):
            self.assertEqual(ask_round(n, ("order", a)), [[-6]], (n, a))


class ExponentTest(unittest.TestCase):
    def test_known(self):
        told = {1: 1, 2: 1, 4: 2, 7: 6, 8: 2, 9: 6, 16: 4, 18: 6, 24: 2, 105: 12, 256: 64, 293: 292, 300: 20}
        for n, answer in told.items():
            self.assertEqual(ask_round(n, ("exponent",)), [[answer]], n)

    def test_every_n(self):
        for n in range(1, 301):
            self.assertEqual(ask_round(n, ("exponent",)), [[slow_exponent(n)]], n)


class GeneratorsTest(unittest.TestCase):
    def test_known(self):
        told = {1: [0], 2: [1], 3: [2], 4: [3], 7: [3, 5], 8: [], 9: [2, 5], 10: [3, 7], 12: [], 16: [], 18: [5, 11],
                300: []}
        for n, generators in told.items():
            self.assertEqual(ask_round(n, ("generators",)), [[len(generators)] + generators], n)

    def test_every_n(self):
        for n in range(1, 301):
            generators = slow_generators(n)
            self.assertEqual(ask_round(n, ("generators",)), [[len(generators)] + generators], n)
            self.assertEqual(len(generators) > 0, has_generator(n), n)


class LogTest(unittest.TestCase):
    def test_known(self):
        for n, g, a, answer in ((7, 3, 6, 3), (7, 3, 5, 5), (10, 3, 7, 3), (9, 2, 7, 4), (2, 1, 1, 0), (4, 3, 3, 1)):
            self.assertEqual(ask_round(n, ("log", g, a)), [[answer]], (n, g, a))

    def test_a_power_of_0(self):
        for n in KINDS:
            for g in slow_units(n)[:5]:
                for a in (1, n + 1, 9 * n + 1):
                    self.assertEqual(ask_round(n, ("log", g, a)), [[0]], (n, g, a))

    def test_round_1(self):
        for g in (0, 1, 2, BIGGEST):
            for a in (0, 1, 2, BIGGEST):
                self.assertEqual(ask_round(1, ("log", g, a)), [[0]], (g, a))

    def test_no_such_power(self):
        for n, g, a in ((7, 2, 3), (8, 3, 5), (10, 1, 3), (10, 9, 3), (300, 7, 11), (300, 307, 611), (256, 3, 5)):
            self.assertEqual(ask_round(n, ("log", g, a)), [[-3]], (n, g, a))

    def test_no_unit_is_told_ahead_of_no_such_power(self):
        for n, g, a in ((10, 3, 5), (10, 1, 2), (10, 2, 3), (10, 2, 4), (10, 2, 2), (10, 2, 1), (10, 0, 0), (10, 10, 3),
                        (10, 3, 10), (2, 0, 1), (2, 1, 0), (300, 7, 9), (300, 9, 7), (300, 9, 81), (300, BIGGEST, 1)):
            self.assertEqual(ask_round(n, ("log", g, a)), [[-6]], (n, g, a))

    def test_every_pair_for_small_n(self):
        for n in range(1, 31):
            for g in range(n + 3):
                for a in range(n + 3):
                    self.assertEqual(ask_round(n, ("log", g, a)), [[slow_log(g, a, n)]], (n, g, a))

    def test_pairs_for_bigger_n(self):
        for n in KINDS:
            for g in (1, 2, 3, 5, 7, n - 1, n + 2, 3 * n + 7, BIGGEST):
                for a in (0, 1, 2, 4, 7, 11, 49, n - 1, n, 2 * n + 3, BIGGEST - 2, BIGGEST):
                    self.assertEqual(ask_round(n, ("log", g, a)), [[slow_log(g, a, n)]], (n, g, a))

    def test_the_furthest_power(self):
        for n, g in ((293, 2), (289, 3), (243, 2), (250, 3)):
            last = pow(g, -1, n)
            self.assertEqual(ask_round(n, ("log", g, last)), [[len(slow_units(n)) - 1]], n)


if __name__ == "__main__":
    unittest.main()
