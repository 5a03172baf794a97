"""Point 4: parts."""

import unittest

from tests.reckoning import (
    BEGIN, GREATEST, MILLION, NOUGHTS, OUT_OF_BOUNDS, PARTS, PRIMES, ask, ask_many, parts_of,
)


class PartsTest(unittest.TestCase):
    def test_against_the_base_divided_by_each_prime(self):
        told = ask_many(7, [(PARTS, b) for b in range(2, 101)])
        for b in range(2, 101):
            parts = parts_of(b)
            row = [len(parts)]
            for p, often in parts:
                row += [p, often]
            self.assertEqual(told[b - 2], row, b)

    def test_a_prime_is_its_own_part(self):
        self.assertEqual(ask_many(2, [(PARTS, p) for p in PRIMES]), [[1, p, 1] for p in PRIMES])

    def test_a_primes_power(self):
        told = ask((BEGIN, 3), (PARTS, 4), (PARTS, 8), (PARTS, 64), (PARTS, 9), (PARTS, 81), (PARTS, 25), (PARTS, 49))
        self.assertEqual(told[1:], [[1, 2, 2], [1, 2, 3], [1, 2, 6], [1, 3, 2], [1, 3, 4], [1, 5, 2], [1, 7, 2]])

    def test_two_primes_and_three(self):
        told = ask((BEGIN, 3), (PARTS, 6), (PARTS, 10), (PARTS, 12), (PARTS, 72), (PARTS, 94), (PARTS, 100),
                   (PARTS, 30), (PARTS, 60), (PARTS, 84), (PARTS, 90))
        self.assertEqual(told[1:], [
            [2, 2, 1, 3, 1], [2, 2, 1, 5, 1], [2, 2, 2, 3, 1], [2, 2, 3, 3, 2], [2, 2, 1, 47, 1], [2, 2, 2, 5, 2],
            [3, 2, 1, 3, 1, 5, 1], [3, 2, 2, 3, 1, 5, 1], [3, 2, 2, 3, 1, 7, 1], [3, 2, 1, 3, 2, 5, 1],
        ])

    def test_whatever_the_prime(self):
        for p in PRIMES:
            self.assertEqual(ask((BEGIN, p), (PARTS, 98)), [[p], [2, 2, 1, 7, 2]])

    def test_bounds(self):
        told = ask((BEGIN, 2), *[(PARTS, b) for b in (0, 1, 2, 100, 101, 102, 128, MILLION, MILLION + 1, GREATEST)])
        self.assertEqual(told[1:], [[-22], [-22], [1, 2, 1], [2, 2, 2, 5, 2]] + [OUT_OF_BOUNDS] * 6)


class WhatHoldsTest(unittest.TestCase):
    def test_multiplied_together_they_are_the_base_again(self):
        for b, told in zip(range(2, 101), ask_many(2, [(PARTS, b) for b in range(2, 101)]), strict=True):
            self.assertEqual(len(told), 1 + 2 * told[0])
            whole = 1
            for p, often in zip(told[1::2], told[2::2], strict=True):
                self.assertIn(p, PRIMES)
                self.assertGreater(often, 0)
                whole *= p ** often
            self.assertEqual(whole, b)
            self.assertEqual(told[1::2], sorted(set(told[1::2])))

    def test_noughts_are_as_the_scarcest_part_allows(self):
        for b in range(2, 101):
            told = ask((BEGIN, 2), (PARTS, b), (NOUGHTS, b, 1000))
            parts = list(zip(told[1][1::2], told[1][2::2], strict=True))
            alone = [ask((BEGIN, 2), (NOUGHTS, p, 1000))[1][0] // often for p, often in parts]
            self.assertEqual(told[2], [min(alone)], b)


if __name__ == "__main__":
    unittest.main()
