"""Point 2: jumps."""

import unittest

from tests.reckoning import (
    BEGIN, GREATEST, JUMPS, MILLION, OUT_OF_BOUNDS, PRIMES, TIMES,
    ask, ask_many, how_often, often_and_left, often_and_left_by_factors, product,
)


class JumpsTest(unittest.TestCase):
    def test_against_both_products(self):
        wholes = [product(n) for n in range(0, 260)]
        for p in PRIMES:
            told = ask_many(p, [(JUMPS, n) for n in range(1, 260)])
            often = [often_and_left(p, whole)[0] for whole in wholes]
            for n in range(1, 260):
                self.assertEqual(told[n - 1], [often[n] - often[n - 1], often[n - 1], often[n]], (p, n))

    def test_powers_of_each_prime(self):
        for p in PRIMES:
            power = p
            exponent = 1
            while power < MILLION:
                told = ask((BEGIN, p), (JUMPS, power), (JUMPS, power + 1))
                before = how_often(p, power - 1)
                self.assertEqual(told[1], [exponent, before, before + exponent], (p, power))
                self.assertEqual(told[2], [0, before + exponent, before + exponent], (p, power))
                power *= p
                exponent += 1

    def test_one(self):
        for p in PRIMES:
            self.assertEqual(ask((BEGIN, p), (JUMPS, 1)), [[p], [0, 0, 0]])

    def test_the_prime_and_one_less(self):
        for p in PRIMES[1:]:
            self.assertEqual(ask((BEGIN, p), (JUMPS, p - 1), (JUMPS, p), (JUMPS, p + 1))[1:],
                             [[0, 0, 0], [1, 0, 1], [0, 1, 1]])

    def test_a_million(self):
        for p in (2, 3, 5, 97):
            before = often_and_left_by_factors(p, MILLION - 1)[0]
            more = often_and_left(p, MILLION)[0]
            self.assertEqual(ask((BEGIN, p), (JUMPS, MILLION)), [[p], [more, before, before + more]])

    def test_written_out(self):
        told = ask((BEGIN, 2), (JUMPS, 8), (JUMPS, MILLION), (BEGIN, 5), (JUMPS, 25), (JUMPS, 26), (JUMPS, MILLION))
        self.assertEqual(told, [[2], [3, 4, 7], [6, 999987, 999993], [5], [2, 4, 6], [0, 6, 6], [6, 249992, 249998]])

    def test_bounds(self):
        for p in PRIMES:
            told = ask((BEGIN, p), *[(JUMPS, n) for n in (0, 1, MILLION, MILLION + 1, GREATEST)])
            self.assertEqual(told[1], OUT_OF_BOUNDS)
            self.assertEqual([len(row) for row in told[2:4]], [3, 3])
            self.assertEqual(told[4:], [OUT_OF_BOUNDS] * 2)


class WhatHoldsTest(unittest.TestCase):
    def test_the_first_is_the_third_without_the_second(self):
        ns = list(range(1, 400)) + [999, 4096, 65536, 531441, 912673, 999999, MILLION]
        for p in PRIMES:
            for n, told in zip(ns, ask_many(p, [(JUMPS, n) for n in ns]), strict=True):
                self.assertEqual(len(told), 3)
                self.assertEqual(told[0], told[2] - told[1], (p, n))
                self.assertEqual(told[0], often_and_left(p, n)[0], (p, n))

    def test_the_two_are_as_times_says(self):
        for p in PRIMES:
            for n in (1, 2, p, p * p, 1000, MILLION):
                told = ask((BEGIN, p), (JUMPS, n), (TIMES, n - 1), (TIMES, n))
                self.assertEqual(told[1][1:], told[2] + told[3], (p, n))


if __name__ == "__main__":
    unittest.main()
