"""Point 3: least."""

import unittest

from tests.reckoning import (
    BEGIN, GREATEST, LEAST, MILLION, NO_SUCH_NUMBER, OUT_OF_BOUNDS, PRIMES, TIMES,
    ask, ask_many, often_and_left,
)


def often_of_each_below_700(prime):
    """How often the prime divides the product of 0, of 1, and so on, up to that of 699."""
    often = []
    whole = 1
    for n in range(0, 700):
        whole *= max(n, 1)
        often.append(often_and_left(prime, whole)[0])
    return often


def least_by_looking(often_of, wanted):
    for n, often in enumerate(often_of):
        if often >= wanted:
            return [n, often]
    return NO_SUCH_NUMBER


class LeastTest(unittest.TestCase):
    def test_against_looking_one_by_one(self):
        for p in PRIMES:
            often_of = often_of_each_below_700(p)
            told = ask_many(p, [(LEAST, k) for k in range(0, 601)])
            for k in range(0, 601):
                self.assertEqual(told[k], least_by_looking(often_of, k), (p, k))

    def test_nought_is_had_at_once(self):
        for p in PRIMES:
            self.assertEqual(ask((BEGIN, p), (LEAST, 0)), [[p], [0, 0]])

    def test_once_is_had_at_the_prime(self):
        for p in PRIMES:
            self.assertEqual(ask((BEGIN, p), (LEAST, 1)), [[p], [p, 1]])

    def test_a_power_that_is_leapt_over(self):
        told = ask((BEGIN, 2), (LEAST, 2), (LEAST, 3), (LEAST, 5), (LEAST, 6), (LEAST, 7),
                   (BEGIN, 3), (LEAST, 3), (LEAST, 4), (BEGIN, 5), (LEAST, 5), (LEAST, 6))
        self.assertEqual(told, [[2], [4, 3], [4, 3], [8, 7], [8, 7], [8, 7],
                                [3], [9, 4], [9, 4], [5], [25, 6], [25, 6]])

    def test_bound(self):
        self.assertEqual(ask((BEGIN, 2), (LEAST, 600)), [[2], [606, 600]])
        for p in PRIMES:
            told = ask((BEGIN, p), (LEAST, 601), (LEAST, 700), (LEAST, MILLION), (LEAST, MILLION + 1),
                       (LEAST, GREATEST))
            self.assertEqual(told[1:], [OUT_OF_BOUNDS] * 5, p)

    def test_none_below_700(self):
        told = ask((BEGIN, 3), (LEAST, 600), (BEGIN, 97), (LEAST, 7), (LEAST, 8), (LEAST, 600))
        self.assertEqual(told, [[3], [-33], [97], [679, 7], [-33], [-33]])

    def test_700_itself_is_not_below_700(self):
        told = ask((BEGIN, 7), (LEAST, 115), (LEAST, 116), (BEGIN, 5), (LEAST, 172), (LEAST, 173), (LEAST, 174))
        self.assertEqual(told, [[7], [693, 115], [-33], [5], [695, 172], [-33], [-33]])

    def test_699_is_below_700(self):
        self.assertEqual(ask((BEGIN, 3), (TIMES, 698), (LEAST, 345), (LEAST, 346)), [[3], [344], [699, 345], [-33]])

    def test_a_refusal_changes_nothing(self):
        told = ask((BEGIN, 97), (LEAST, 8), (LEAST, 601), (TIMES, 97), (LEAST, 2))
        self.assertEqual(told, [[97], [-33], [-22], [1], [194, 2]])


class WhatHoldsTest(unittest.TestCase):
    def test_the_least_told_is_the_least(self):
        for p in PRIMES:
            for k, told in enumerate(ask_many(p, [(LEAST, k) for k in range(0, 601)])):
                if told == NO_SUCH_NUMBER:
                    self.assertLess(ask((BEGIN, p), (TIMES, 699))[1][0], k)
                    continue
                n, often = told
                self.assertEqual(ask((BEGIN, p), (TIMES, n))[1], [often])
                self.assertGreaterEqual(often, k)
                if n > 0:
                    self.assertLess(ask((BEGIN, p), (TIMES, n - 1))[1][0], k)


if __name__ == "__main__":
    unittest.main()
