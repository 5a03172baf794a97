"""Point 1: told."""

import unittest

from tests.reckoning import (
    BEGIN, GAPS, GREATEST, JUMPS, LEAST, MILLION, NOT_BEGUN, NOUGHTS, OUT_OF_BOUNDS, PARTS, PRIME, PRIMES, PROD,
    REST, SPAN, SQUARE, TIMES, TOLD, TWICE, ask,
)

NOT_REFUSED = (
    (PROD, 20), (TIMES, 9), (REST, 9), (LEAST, 3), (NOUGHTS, 10, 25), (SPAN, 2, 9), (GAPS, 60), (SQUARE, 60),
    (TWICE, 20, 10), (PARTS, 60), (JUMPS, 81), (TOLD,),
)
REFUSED = (
    (BEGIN, 4), (BEGIN, 0), (BEGIN, 101), (PRIME, 1), (PRIME, 100), (PRIME, GREATEST), (PROD, 21), (TIMES, MILLION + 1),
    (REST, MILLION + 1), (LEAST, 601), (NOUGHTS, 1, 1), (NOUGHTS, 2, GREATEST), (SPAN, 0, 5), (SPAN, 5, 4),
    (SPAN, 5, MILLION + 1), (GAPS, 61), (SQUARE, 61), (TWICE, 5, 61), (TWICE, MILLION + 1, 5), (PARTS, 1),
    (PARTS, 101), (JUMPS, 0), (JUMPS, MILLION + 1),
)


class ToldTest(unittest.TestCase):
    def test_the_prime_of_begin(self):
        for p in PRIMES:
            self.assertEqual(ask((BEGIN, p), (TOLD,), (TOLD,)), [[p], [p], [p]])

    def test_the_prime_of_prime(self):
        for q in PRIMES:
            self.assertEqual(ask((BEGIN, 2), (PRIME, q), (TOLD,), (BEGIN, 97), (TOLD,)), [[2], [2], [q], [97], [97]])

    def test_what_is_no_call_of_the_prime_leaves_it(self):
        for p in PRIMES:
            for call in NOT_REFUSED:
                self.assertEqual(ask((BEGIN, p), call, (TOLD,))[2], [p], call)

    def test_a_refused_call_leaves_it(self):
        for p in PRIMES:
            for call in REFUSED:
                self.assertEqual(ask((BEGIN, p), call, (TOLD,)), [[p], OUT_OF_BOUNDS, [p]], call)

    def test_none_below_700_leaves_it(self):
        self.assertEqual(ask((BEGIN, 97), (LEAST, 600), (TOLD,)), [[97], [-33], [97]])

    def test_before_a_begin(self):
        self.assertEqual(ask((TOLD,)), [NOT_BEGUN])
        self.assertEqual(ask((BEGIN, 9), (TOLD,), (PRIME, 7), (TOLD,), (BEGIN, 3), (TOLD,)),
                         [[-22], [-11], [-11], [-11], [3], [3]])


if __name__ == "__main__":
    unittest.main()
