"""Point 1: begin and prime."""

import unittest

from tests.reckoning import (
    BEGIN, GREATEST, MILLION, NAMES, NOT_BEGUN, NUMBERS_BEHIND, OUT_OF_BOUNDS, PRIME, PRIMES, TIMES, ask,
)

NO_PRIMES = [n for n in range(0, 130) if n not in PRIMES]
GREAT_NO_PRIMES = [169, 997, 1009, MILLION, MILLION + 1, 2147483647, 4294967291, GREATEST]


class BeginTest(unittest.TestCase):
    def test_each_prime_below_100_is_answered(self):
        for p in PRIMES:
            self.assertEqual(ask((BEGIN, p)), [[p]], p)

    def test_all_else_is_refused(self):
        for p in NO_PRIMES + GREAT_NO_PRIMES:
            self.assertEqual(ask((BEGIN, p)), [OUT_OF_BOUNDS], p)

    def test_edges(self):
        told = ask(*[(BEGIN, p) for p in (0, 1, 2, 4, 97, 99, 100, 101, GREATEST)])
        self.assertEqual(told, [[-22], [-22], [2], [-22], [97], [-22], [-22], [-22], [-22]])

    def test_the_prime_holds_from_then_on(self):
        for p in PRIMES:
            told = ask((BEGIN, p), (TIMES, p), (TIMES, p - 1), (TIMES, p * p))
            self.assertEqual(told, [[p], [1], [0], [p + 1]], p)

    def test_begin_may_come_again(self):
        told = ask((BEGIN, 2), (TIMES, 8), (BEGIN, 3), (TIMES, 8), (BEGIN, 3), (BEGIN, 2), (TIMES, 8))
        self.assertEqual(told, [[2], [7], [3], [2], [3], [2], [7]])

    def test_a_refused_begin_leaves_the_prime(self):
        for p in NO_PRIMES + GREAT_NO_PRIMES:
            told = ask((BEGIN, 5), (BEGIN, p), (TIMES, 25), (PRIME, 7))
            self.assertEqual(told, [[5], OUT_OF_BOUNDS, [6], [5]], p)


class PrimeTest(unittest.TestCase):
    def test_answers_what_the_prime_was(self):
        calls = [(BEGIN, 97)] + [(PRIME, q) for q in PRIMES] + [(PRIME, 2)]
        self.assertEqual(ask(*calls), [[97], [97]] + [[q] for q in PRIMES])

    def test_the_same_prime_again(self):
        self.assertEqual(ask((BEGIN, 3), (PRIME, 3), (PRIME, 3)), [[3], [3], [3]])

    def test_the_new_prime_holds_from_then_on(self):
        for q in PRIMES:
            told = ask((BEGIN, 2), (PRIME, q), (TIMES, q), (TIMES, q - 1), (TIMES, q * q))
            self.assertEqual(told, [[2], [2], [1], [0], [q + 1]], q)

    def test_all_else_is_refused_and_leaves_the_prime(self):
        for q in NO_PRIMES + GREAT_NO_PRIMES:
            told = ask((BEGIN, 5), (PRIME, q), (TIMES, 25), (PRIME, 7), (PRIME, 7))
            self.assertEqual(told, [[5], OUT_OF_BOUNDS, [6], [5], [7]], q)

    def test_edges(self):
        told = ask((BEGIN, 11), *[(PRIME, q) for q in (0, 1, 2, 4, 97, 99, 100, 101, GREATEST, 13)])
        self.assertEqual(told[1:], [[-22], [-22], [11], [-22], [2], [-22], [-22], [-22], [-22], [97]])

    def test_begin_behind_prime(self):
        self.assertEqual(ask((BEGIN, 2), (PRIME, 3), (BEGIN, 5), (PRIME, 7)), [[2], [2], [5], [5]])


class BeforeBeginTest(unittest.TestCase):
    def calls(self, value):
        return [(call,) + (value,) * NUMBERS_BEHIND[call] for call in range(1, len(NAMES))]

    def test_all_else_is_refused(self):
        for value in (0, 2, 5, 97, 101, 601, MILLION, MILLION + 1, GREATEST):
            for call in self.calls(value):
                self.assertEqual(ask(call), [NOT_BEGUN], (NAMES[call[0]], value))

    def test_behind_a_refused_begin_too(self):
        for p in (0, 1, 4, 99, 100, 101, GREATEST):
            for call in self.calls(3):
                self.assertEqual(ask((BEGIN, p), call), [OUT_OF_BOUNDS, NOT_BEGUN], (NAMES[call[0]], p))

    def test_all_calls_one_behind_another_and_then_begin(self):
        calls = self.calls(5)
        told = ask(*calls, (BEGIN, 5), (TIMES, 5))
        self.assertEqual(told, [NOT_BEGUN] * len(calls) + [[5], [1]])

    def test_each_call_is_read_with_just_its_numbers(self):
        # Neither the greatest number nor 97 is a call, so a number too many or too few can't go unseen.
        for call in self.calls(GREATEST):
            self.assertEqual(ask(call, (BEGIN, 97)), [NOT_BEGUN, [97]], NAMES[call[0]])

    def test_a_prime_that_came_too_soon_is_not_kept(self):
        self.assertEqual(ask((PRIME, 7), (BEGIN, 5), (PRIME, 2)), [NOT_BEGUN, [5], [5]])
        self.assertEqual(ask((PRIME, 7), (TIMES, 7)), [NOT_BEGUN, NOT_BEGUN])

    def test_begun_once_none_is_refused_so(self):
        told = ask((BEGIN, 2), (BEGIN, 4), *self.calls(2))
        self.assertEqual(told, [
            [2], [-22], [2], [2], [1], [1], [4, 3], [1], [1], [0], [1, 2], [0], [1, 2, 1], [1, 0, 1], [2],
        ])


if __name__ == "__main__":
    unittest.main()
