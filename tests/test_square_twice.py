"""Point 4: square and twice."""

import math
import unittest

from tests.reckoning import (
    BEGIN, GREATEST, MILLION, OUT_OF_BOUNDS, PRIMES, SQUARE, TIMES, TWICE,
    ask, ask_many, divides_twice, odd_ones, product,
)


class SquareTest(unittest.TestCase):
    def test_against_each_prime_up_to_n(self):
        told = ask_many(2, [(SQUARE, n) for n in range(0, 61)])
        for n in range(0, 61):
            primes = odd_ones(n)
            self.assertEqual(told[n], [len(primes)] + primes, n)

    def test_written_out(self):
        told = ask((BEGIN, 97), *[(SQUARE, n) for n in (0, 1, 2, 3, 4, 6, 8, 9, 10)])
        self.assertEqual(told[1:], [
            [0], [0], [1, 2], [2, 2, 3], [2, 2, 3], [1, 5], [3, 2, 5, 7], [3, 2, 5, 7], [1, 7],
        ])

    def test_whatever_the_prime(self):
        for p in PRIMES:
            self.assertEqual(ask((BEGIN, p), (SQUARE, 7)), [[p], [2, 5, 7]])

    def test_bounds(self):
        told = ask((BEGIN, 2), *[(SQUARE, n) for n in (0, 1, 60, 61, 62, 100, MILLION, MILLION + 1, GREATEST)])
        self.assertEqual(told[1:3], [[0], [0]])
        self.assertEqual(told[3], [len(odd_ones(60))] + odd_ones(60))
        self.assertEqual(told[4:], [OUT_OF_BOUNDS] * 6)


class TwiceTest(unittest.TestCase):
    def test_against_the_product_multiplied_by_itself(self):
        for m in range(0, 61):
            told = ask_many(2, [(TWICE, n, m) for n in range(0, 131)])
            self.assertEqual(told, [[divides_twice(n, m)] for n in range(0, 131)], m)

    def test_written_out(self):
        # 4! is 24; 3! by itself is 36, and 6! is 720 where 5! is 120.
        told = ask((BEGIN, 5), (TWICE, 0, 0), (TWICE, 0, 1), (TWICE, 1, 1), (TWICE, 1, 2), (TWICE, 3, 2),
                   (TWICE, 4, 2), (TWICE, 5, 3), (TWICE, 6, 3), (TWICE, 2, 3), (TWICE, 0, 60), (TWICE, 60, 60))
        self.assertEqual(told[1:], [[1], [1], [1], [0], [0], [1], [0], [1], [0], [0], [0]])

    def test_nought_and_one_taken_twice_divide_all(self):
        calls = [(TWICE, n, m) for n in (0, 1, 2, 60, 61, MILLION) for m in (0, 1)]
        self.assertEqual(ask_many(2, calls), [[1]] * 12)

    def test_twice_as_many_are_enough(self):
        calls = [(TWICE, n, m) for m in range(0, 61) for n in (2 * m, 2 * m + 1, 1000, MILLION - 1, MILLION)]
        self.assertEqual(ask_many(2, calls), [[1]] * len(calls))

    def test_a_prime_that_comes_but_once_is_too_few(self):
        for m in (53, 59):
            self.assertEqual(ask((BEGIN, 2), (TWICE, 2 * m - 1, m), (TWICE, 2 * m, m)), [[2], [0], [1]])

    def test_whatever_the_prime(self):
        for p in PRIMES:
            self.assertEqual(ask((BEGIN, p), (TWICE, 9, 5), (TWICE, 10, 5)), [[p], [0], [1]])

    def test_bounds_of_m(self):
        for n in (0, 1, 120, MILLION, MILLION + 1, GREATEST):
            for m in (61, 62, 100, MILLION, MILLION + 1, GREATEST):
                self.assertEqual(ask((BEGIN, 2), (TWICE, n, m)), [[2], OUT_OF_BOUNDS], (n, m))
        self.assertEqual(ask((BEGIN, 2), *[(TWICE, 200, m) for m in (0, 1, 60, 61)])[1:], [[1], [1], [1], [-22]])

    def test_bounds_of_n(self):
        for m in (0, 1, 2, 59, 60):
            told = ask((BEGIN, 2), *[(TWICE, n, m) for n in (MILLION, MILLION + 1, MILLION + 2, GREATEST)])
            self.assertEqual(told[1:], [[1], [-22], [-22], [-22]], m)


class WhatHoldsTest(unittest.TestCase):
    def test_from_two_to_sixty_the_product_is_never_a_square(self):
        for n, told in zip(range(2, 61), ask_many(3, [(SQUARE, n) for n in range(2, 61)]), strict=True):
            self.assertNotEqual(math.isqrt(product(n)) ** 2, product(n))
            self.assertGreaterEqual(told[0], 1, n)
            self.assertEqual(told[0], len(told) - 1, n)
            self.assertEqual(told[1:], sorted(set(told[1:])), n)

    def test_the_product_without_those_primes_is_a_square(self):
        for n, told in zip(range(0, 61), ask_many(3, [(SQUARE, n) for n in range(0, 61)]), strict=True):
            rest = product(n)
            for p in told[1:]:
                rest //= p
            self.assertEqual(math.isqrt(rest) ** 2, rest, n)

    def test_the_primes_are_those_that_times_tells_odd(self):
        for n in range(0, 61):
            odd = [p for p in PRIMES if ask((BEGIN, p), (TIMES, n))[1][0] % 2 == 1]
            self.assertEqual(ask((BEGIN, 2), (SQUARE, n))[1], [len(odd)] + odd, n)


if __name__ == "__main__":
    unittest.main()
