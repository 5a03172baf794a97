"""Point 4: noughts."""

import unittest

from tests.reckoning import (
    BEGIN, GREATEST, MILLION, NOUGHTS, OUT_OF_BOUNDS, PRIME, PRIMES, TIMES,
    ask, ask_many, noughts_written, often_and_left, often_and_left_by_factors, product,
)


class NoughtsTest(unittest.TestCase):
    def test_against_the_product_written_to_the_base(self):
        for b in range(2, 101):
            told = ask_many(2, [(NOUGHTS, b, n) for n in range(0, 110)])
            for n in range(0, 110):
                self.assertEqual(told[n], [noughts_written(product(n), b)], (b, n))

    def test_greater_products(self):
        for n in (243, 256, 343, 400, 625):
            whole = product(n)
            told = ask_many(3, [(NOUGHTS, b, n) for b in range(2, 101)])
            self.assertEqual(told, [[noughts_written(whole, b)] for b in range(2, 101)], n)

    def test_bases_that_are_a_primes_power(self):
        told = ask((BEGIN, 2), (NOUGHTS, 4, 4), (NOUGHTS, 8, 4), (NOUGHTS, 16, 4), (NOUGHTS, 64, 8),
                   (NOUGHTS, 81, 9), (NOUGHTS, 81, 8), (NOUGHTS, 49, 14), (NOUGHTS, 49, 13), (NOUGHTS, 25, 24))
        self.assertEqual(told[1:], [[1], [1], [0], [1], [1], [0], [1], [0], [2]])

    def test_bases_of_two_primes(self):
        # In base 12 the 2 may be the scarcer one, though it is the smaller prime.
        self.assertEqual(ask((BEGIN, 2), (NOUGHTS, 12, 3), (NOUGHTS, 12, 4), (NOUGHTS, 12, 9), (NOUGHTS, 12, 10),
                             (NOUGHTS, 10, 25), (NOUGHTS, 48, 12), (NOUGHTS, 96, 8), (NOUGHTS, 100, 20))[1:],
                         [[0], [1], [3], [4], [6], [2], [1], [2]])

    def test_nought_and_one_end_without_noughts(self):
        told = ask_many(7, [(NOUGHTS, b, n) for b in range(2, 101) for n in (0, 1)])
        self.assertEqual(told, [[0]] * 198)

    def test_a_million(self):
        often = {p: often_and_left_by_factors(p, MILLION)[0] for p in PRIMES}
        told = ask_many(2, [(NOUGHTS, b, MILLION) for b in range(2, 101)])
        for b in range(2, 101):
            parts = [(p, often_and_left(p, b)[0]) for p in PRIMES if b % p == 0]
            self.assertEqual(told[b - 2], [min(often[p] // e for p, e in parts)], b)

    def test_a_million_written_out(self):
        told = ask((BEGIN, 3), (NOUGHTS, 10, MILLION), (NOUGHTS, 2, MILLION), (NOUGHTS, 16, MILLION),
                   (NOUGHTS, 97, MILLION))
        self.assertEqual(told[1:], [[249998], [999993], [249998], [10416]])

    def test_whatever_the_prime(self):
        for p in PRIMES:
            self.assertEqual(ask((BEGIN, p), (NOUGHTS, 10, 100)), [[p], [24]])

    def test_the_prime_stays(self):
        told = ask((BEGIN, 3), (NOUGHTS, 10, 100), (TIMES, 9), (NOUGHTS, 101, 1), (PRIME, 5))
        self.assertEqual(told, [[3], [24], [4], [-22], [3]])


class RefusalTest(unittest.TestCase):
    def test_bases(self):
        for n in (0, 1, 10, MILLION, MILLION + 1, GREATEST):
            for b in (0, 1, 101, 102, 128, MILLION, MILLION + 1, GREATEST):
                self.assertEqual(ask((BEGIN, 2), (NOUGHTS, b, n)), [[2], OUT_OF_BOUNDS], (b, n))

    def test_numbers(self):
        for b in (2, 6, 64, 97, 100):
            self.assertNotEqual(ask((BEGIN, 2), (NOUGHTS, b, MILLION))[1], OUT_OF_BOUNDS)
            for n in (MILLION + 1, GREATEST):
                self.assertEqual(ask((BEGIN, 2), (NOUGHTS, b, n)), [[2], OUT_OF_BOUNDS], (b, n))

    def test_edges_of_the_base(self):
        told = ask((BEGIN, 2), *[(NOUGHTS, b, 10) for b in (0, 1, 2, 100, 101)])
        self.assertEqual(told[1:], [[-22], [-22], [8], [1], [-22]])


class WhatHoldsTest(unittest.TestCase):
    def test_just_so_many_noughts(self):
        for n in (60, 97, 128, 3000):
            whole = product(n)
            for b in range(2, 101):
                told = ask((BEGIN, 2), (NOUGHTS, b, n))[1][0]
                self.assertEqual(whole % b ** told, 0, (b, n))
                self.assertNotEqual(whole % b ** (told + 1), 0, (b, n))


if __name__ == "__main__":
    unittest.main()
