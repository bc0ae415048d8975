"""factors, parts, orders and product: what is told of n and of all units at once."""

import math
import unittest

from tests.slow import (KINDS, ask, ask_round, has_generator, slow_exponent, slow_factors, slow_order, slow_orders,
                        slow_part_units, slow_powers, slow_product, slow_products, slow_units)

EVERY_N = range(1, 301)


class BeforeAnyRoundTest(unittest.TestCase):
    def test_n_is_2(self):
        self.assertEqual(ask(("factors",), ("parts",), ("orders",), ("product",)), [[1, 2, 1], [0], [1, 1, 1], [1]])


class FactorsTest(unittest.TestCase):
    def test_known(self):
        told = {1: [0], 2: [1, 2, 1], 3: [1, 3, 1], 4: [1, 2, 2], 8: [1, 2, 3], 9: [1, 3, 2], 10: [2, 2, 1, 5, 1],
                12: [2, 2, 2, 3, 1], 16: [1, 2, 4], 18: [2, 2, 1, 3, 2], 49: [1, 7, 2],
                210: [4, 2, 1, 3, 1, 5, 1, 7, 1], 243: [1, 3, 5], 256: [1, 2, 8], 289: [1, 17, 2], 293: [1, 293, 1],
                298: [2, 2, 1, 149, 1], 299: [2, 13, 1, 23, 1], 300: [3, 2, 2, 3, 1, 5, 2]}
        for n, answer in told.items():
            self.assertEqual(ask_round(n, ("factors",)), [answer], n)

    def test_every_n(self):
        for n in EVERY_N:
            self.assertEqual(ask_round(n, ("factors",)), [slow_factors(n)], n)

    def test_the_factors_make_up_n(self):
        for n in EVERY_N:
            row = ask_round(n, ("factors",))[0]
            self.assertEqual(len(row), 1 + 2 * row[0], n)
            self.assertEqual(math.prod(p ** often for p, often in zip(row[1::2], row[2::2])), n)


class PartsTest(unittest.TestCase):
    def test_known(self):
        told = {1: [], 2: [], 3: [2], 4: [2], 6: [2], 7: [6], 8: [2, 2], 9: [6], 10: [4], 12: [2, 2], 15: [2, 4],
                16: [2, 4], 18: [6], 24: [2, 2, 2], 25: [20], 32: [2, 8], 63: [6, 6], 65: [4, 12], 91: [6, 12],
                105: [2, 2, 12], 120: [2, 2, 2, 4], 240: [2, 2, 4, 4], 243: [162], 250: [100], 256: [2, 64], 289: [272],
                293: [292], 299: [2, 132], 300: [2, 2, 20]}
        for n, parts in told.items():
            self.assertEqual(ask_round(n, ("parts",)), [[len(parts)] + parts], n)

    def test_each_is_2_at_least_and_divides_the_next(self):
        for n in EVERY_N:
            row = ask_round(n, ("parts",))[0]
            parts = row[1:]
            self.assertEqual(len(parts), row[0], n)
            self.assertTrue(all(part >= 2 for part in parts), n)
            self.assertTrue(all(high % low == 0 for low, high in zip(parts, parts[1:])), n)

    def test_there_are_units_with_these_orders(self):
        for n in EVERY_N:
            taken = slow_part_units(n)
            parts = ask_round(n, ("parts",))[0][1:]
            self.assertEqual([slow_order(a, n) for a in reversed(taken)], parts, n)

    def test_each_unit_is_a_product_of_their_powers_in_just_one_way(self):
        for n in EVERY_N:
            taken = list(reversed(slow_part_units(n)))
            parts = ask_round(n, ("parts",))[0][1:]
            rows = [slow_powers(a, n)[:part] for a, part in zip(taken, parts, strict=True)]
            self.assertEqual(sorted(slow_products(rows, n)), slow_units(n), n)

    def test_beside_what_else_is_told_of_n(self):
        for n in EVERY_N:
            parts = ask_round(n, ("parts",))[0][1:]
            self.assertEqual(math.prod(parts), len(slow_units(n)), n)
            self.assertEqual(max(parts, default=1), slow_exponent(n), n)
            self.assertEqual(len(parts) < 2, has_generator(n), n)


class OrdersTest(unittest.TestCase):
    def test_known(self):
        told = {1: [1, 1, 1], 2: [1, 1, 1], 3: [2, 1, 1, 2, 1], 4: [2, 1, 1, 2, 1], 7: [4, 1, 1, 2, 1, 3, 2, 6, 2],
                8: [2, 1, 1, 2, 3], 9: [4, 1, 1, 2, 1, 3, 2, 6, 2], 10: [3, 1, 1, 2, 1, 4, 2],
                16: [3, 1, 1, 2, 3, 4, 4], 18: [4, 1, 1, 2, 1, 3, 2, 6, 2], 24: [2, 1, 1, 2, 7],
                256: [7, 1, 1, 2, 3, 4, 4, 8, 8, 16, 16, 32, 32, 64, 64],
                300: [6, 1, 1, 2, 7, 4, 8, 5, 4, 10, 28, 20, 32]}
        for n, answer in told.items():
            self.assertEqual(ask_round(n, ("orders",)), [answer], n)

    def test_every_n(self):
        for n in EVERY_N:
            self.assertEqual(ask_round(n, ("orders",)), [slow_orders(n)], n)


class ProductTest(unittest.TestCase):
    def test_known(self):
        told = {1: 0, 2: 1, 3: 2, 4: 3, 7: 6, 8: 1, 9: 8, 10: 9, 12: 1, 15: 1, 16: 1, 18: 17, 25: 24, 256: 1, 293: 292,
                300: 1}
        for n, answer in told.items():
            self.assertEqual(ask_round(n, ("product",)), [[answer]], n)

    def test_every_n(self):
        for n in EVERY_N:
            self.assertEqual(ask_round(n, ("product",)), [[slow_product(n)]], n)
            # Gauss: it's n - 1 where there is a generator, else 1.
            self.assertEqual(slow_product(n), n - 1 if has_generator(n) else 1, n)


class AllOfThemTest(unittest.TestCase):
    def test_they_follow_n(self):
        calls = (("factors",), ("parts",), ("orders",), ("product",))
        for n in KINDS:
            alone = ask_round(n, *calls)
            self.assertEqual(ask(("round", 77), *calls, ("round", n), *calls)[6:], alone, n)
            self.assertEqual(ask(("round", n), ("round", 301), *calls)[2:], alone, n)


if __name__ == "__main__":
    unittest.main()
