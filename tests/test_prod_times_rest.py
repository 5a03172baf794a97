"""Point 2: prod, times and rest."""

import unittest

from tests.reckoning import (
    BEGIN, GREATEST, MILLION, OUT_OF_BOUNDS, PRIMES, PROD, REST, TIMES,
    ask, ask_many, digits, often_and_left, often_and_left_by_factors, product,
)


class ProdTest(unittest.TestCase):
    def test_against_the_product(self):
        told = ask_many(3, [(PROD, n) for n in range(0, 21)])
        self.assertEqual(told, [[product(n)] for n in range(0, 21)])

    def test_written_out(self):
        told = ask((BEGIN, 2), (PROD, 0), (PROD, 1), (PROD, 2), (PROD, 5), (PROD, 13), (PROD, 20))
        self.assertEqual(told[1:], [[1], [1], [2], [120], [6227020800], [2432902008176640000]])

    def test_whatever_the_prime(self):
        for p in PRIMES:
            self.assertEqual(ask((BEGIN, p), (PROD, 10)), [[p], [3628800]])

    def test_above_20_is_refused(self):
        for n in (21, 22, 60, 600, MILLION, MILLION + 1, GREATEST):
            self.assertEqual(ask((BEGIN, 2), (PROD, n)), [[2], OUT_OF_BOUNDS], n)


class TimesAndRestTest(unittest.TestCase):
    def check(self, prime, ns, reckon):
        times = ask_many(prime, [(TIMES, n) for n in ns])
        rests = ask_many(prime, [(REST, n) for n in ns])
        for n, often, left in zip(ns, times, rests, strict=True):
            self.assertEqual((often, left), tuple([x] for x in reckon(n)), (prime, n))

    def test_against_the_product_divided(self):
        wholes = [product(n) for n in range(0, 260)]
        for p in PRIMES:
            self.check(p, list(range(0, 260)), lambda n: often_and_left(p, wholes[n]))

    def test_corners_of_each_prime(self):
        for p in PRIMES:
            ns = [0, 1, p - 1, p, p + 1, 2 * p - 1, 2 * p, p * p - 1, p * p, p * p + 1]
            self.check(p, ns, lambda n: often_and_left_by_factors(p, n))

    def test_powers_of_each_prime(self):
        for p in PRIMES:
            power = p
            while power * p <= 200000:
                power *= p
            self.check(p, [power - 1, power, power + 1], lambda n: often_and_left_by_factors(p, n))

    def test_a_million(self):
        for p in PRIMES:
            self.check(p, [MILLION], lambda n: often_and_left_by_factors(p, n))

    def test_written_out(self):
        told = ask(
            (BEGIN, 2), (TIMES, 0), (REST, 0), (TIMES, 1), (REST, 1), (TIMES, 4), (TIMES, MILLION),
            (BEGIN, 5), (TIMES, MILLION), (REST, 4), (REST, 5), (REST, 10),
        )
        self.assertEqual(told, [[2], [0], [1], [0], [1], [3], [999993], [5], [249998], [4], [4], [2]])

    def test_bound(self):
        for p in (2, 3, 97):
            for call in (TIMES, REST):
                self.assertEqual(ask((BEGIN, p), (call, MILLION + 1), (call, GREATEST))[1:], [OUT_OF_BOUNDS] * 2)
                self.assertNotEqual(ask((BEGIN, p), (call, MILLION))[1], OUT_OF_BOUNDS)

    def test_a_refusal_changes_nothing(self):
        told = ask((BEGIN, 7), (TIMES, GREATEST), (REST, GREATEST), (PROD, GREATEST), (TIMES, 49), (REST, 6))
        self.assertEqual(told, [[7], [-22], [-22], [-22], [8], [6]])


class WhatHoldsTest(unittest.TestCase):
    def test_that_power_divides_and_one_more_does_not(self):
        whole = product(500)
        for p in PRIMES:
            often = ask((BEGIN, p), (TIMES, 500))[1][0]
            self.assertEqual(whole % p ** often, 0, p)
            self.assertNotEqual(whole % p ** (often + 1), 0, p)

    def test_a_number_is_its_cross_sum_and_one_less_than_the_prime_as_often(self):
        ns = list(range(0, 150)) + [999, 4095, 4096, 65535, 65536, 531440, 531441, 912673, 999999, MILLION]
        for p in PRIMES:
            for n, told in zip(ns, ask_many(p, [(TIMES, n) for n in ns]), strict=True):
                self.assertEqual(n, sum(digits(n, p)) + (p - 1) * told[0], (p, n))

    def test_whats_left_is_never_nothing(self):
        ns = list(range(0, 400)) + list(range(MILLION - 200, MILLION + 1))
        for p in PRIMES:
            for n, told in zip(ns, ask_many(p, [(REST, n) for n in ns]), strict=True):
                self.assertTrue(0 < told[0] < p, (p, n))


if __name__ == "__main__":
    unittest.main()
