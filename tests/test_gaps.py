"""Point 3: gaps."""

import unittest

from tests.reckoning import (
    BEGIN, GAPS, GREATEST, LEAST, MILLION, OUT_OF_BOUNDS, PRIMES, TIMES, ask, ask_many, never_come,
)


class GapsTest(unittest.TestCase):
    def test_against_the_products_one_behind_another(self):
        for p in PRIMES:
            told = ask_many(p, [(GAPS, n) for n in range(0, 61)])
            for n in range(0, 61):
                powers = never_come(p, n)
                self.assertEqual(told[n], [len(powers)] + powers, (p, n))

    def test_written_out(self):
        told = ask((BEGIN, 2), (GAPS, 3), (GAPS, 4), (GAPS, 7), (GAPS, 8), (GAPS, 16),
                   (BEGIN, 3), (GAPS, 8), (GAPS, 9), (GAPS, 27), (BEGIN, 5), (GAPS, 24), (GAPS, 25), (GAPS, 60),
                   (BEGIN, 7), (GAPS, 48), (GAPS, 49))
        self.assertEqual(told, [
            [2], [0], [1, 2], [1, 2], [3, 2, 5, 6], [7, 2, 5, 6, 9, 12, 13, 14],
            [3], [0], [1, 3], [4, 3, 7, 11, 12], [5], [0], [1, 5], [2, 5, 11],
            [7], [0], [1, 7],
        ])

    def test_without_a_square_below_none_is_leapt_over(self):
        for p in PRIMES[4:]:
            self.assertEqual(ask_many(p, [(GAPS, n) for n in range(0, 61)]), [[0]] * 61, p)

    def test_nought_one_the_prime_and_one_less(self):
        for p in PRIMES:
            ns = [n for n in (0, 1, p - 1, p) if n <= 60]
            self.assertEqual(ask_many(p, [(GAPS, n) for n in ns]), [[0]] * len(ns), p)

    def test_bounds(self):
        for p in PRIMES:
            told = ask((BEGIN, p), *[(GAPS, n) for n in (60, 61, 62, 100, MILLION, MILLION + 1, GREATEST)])
            self.assertNotEqual(told[1], OUT_OF_BOUNDS)
            self.assertEqual(told[2:], [OUT_OF_BOUNDS] * 6, p)


class WhatHoldsTest(unittest.TestCase):
    def test_a_power_that_is_leapt_over_is_told(self):
        # Leapt over is k where the least n that has it k times or oftener has it oftener.
        for p in PRIMES:
            most = ask((BEGIN, p), (TIMES, 60))[1][0]
            least = ask_many(p, [(LEAST, k) for k in range(0, most + 1)])
            leapt = [k for k in range(0, most + 1) if least[k][1] > k]
            self.assertEqual(ask((BEGIN, p), (GAPS, 60))[1], [len(leapt)] + leapt, p)

    def test_they_rise(self):
        for p in PRIMES:
            told = ask((BEGIN, p), (GAPS, 60))[1]
            self.assertEqual(told[0], len(told) - 1)
            self.assertEqual(told[1:], sorted(set(told[1:])))


if __name__ == "__main__":
    unittest.main()
