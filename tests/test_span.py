"""Point 3: span."""

import unittest

from tests.reckoning import (
    BEGIN, GREATEST, MILLION, OUT_OF_BOUNDS, PRIMES, SPAN, TIMES,
    ask, ask_many, how_often, often_and_left, often_and_left_by_factors, product, spanned,
)


def often_multiplied_out(prime, first, last):
    return often_and_left(prime, spanned(first, last))[0]


class SpanTest(unittest.TestCase):
    def check(self, prime, spans):
        told = ask_many(prime, [(SPAN, a, b) for a, b in spans])
        for row, (a, b) in zip(told, spans, strict=True):
            self.assertEqual(row, [often_multiplied_out(prime, a, b)], (prime, a, b))

    def test_against_the_numbers_multiplied_out(self):
        spans = [(a, b) for a in range(1, 31) for b in range(a, 31)]
        for p in PRIMES:
            self.check(p, spans)

    def test_longer_ones(self):
        spans = [(1, 200), (2, 243), (97, 194), (96, 193), (98, 193), (120, 360), (125, 250), (511, 513), (700, 1000)]
        for p in PRIMES:
            self.check(p, spans)

    def test_just_below_a_million(self):
        spans = [(MILLION - 200, MILLION), (531440, 531442), (912672, 912680), (524288, 524300), (MILLION - 1, MILLION)]
        for p in PRIMES:
            self.check(p, spans)

    def test_corners_of_each_prime(self):
        for p in PRIMES:
            ends = sorted({1, p - 1, p, p + 1, p * p - 1, p * p, p * p + 1})
            for a in ends:
                for b in ends:
                    if a <= b and b - a <= 300:
                        self.check(p, [(a, b)])
                    elif a <= b:
                        self.assertEqual(ask((BEGIN, p), (SPAN, a, b))[1], [how_often(p, b) - how_often(p, a - 1)])

    def test_a_span_of_one(self):
        ones = [1, 2, 3, 4, 5, 8, 9, 25, 49, 96, 97, 98, 9409, 531441, 912673, MILLION - 1, MILLION]
        for p in PRIMES:
            told = ask_many(p, [(SPAN, a, a) for a in ones])
            self.assertEqual(told, [[often_and_left(p, a)[0]] for a in ones], p)

    def test_all_up_to_a_million(self):
        for p in (2, 3, 5, 97):
            often = often_and_left_by_factors(p, MILLION)[0]
            self.assertEqual(ask((BEGIN, p), (SPAN, 1, MILLION), (SPAN, 2, MILLION), (SPAN, p, MILLION)),
                             [[p], [often], [often], [often]])

    def test_written_out(self):
        told = ask((BEGIN, 2), (SPAN, 1, 1), (SPAN, 1, 8), (SPAN, 8, 8), (SPAN, 9, 9), (SPAN, 5, 8),
                   (SPAN, MILLION, MILLION), (BEGIN, 97), (SPAN, 1, 96), (SPAN, 97, 97), (SPAN, 98, 193),
                   (SPAN, 98, 194), (SPAN, 9409, 9409), (BEGIN, 5), (SPAN, 1, MILLION))
        self.assertEqual(told, [[2], [0], [7], [3], [0], [4], [6], [97], [0], [1], [0], [1], [2], [5], [249998]])


class RefusalTest(unittest.TestCase):
    def test_the_first_is_nought(self):
        for b in (0, 1, 5, MILLION, MILLION + 1, GREATEST):
            self.assertEqual(ask((BEGIN, 2), (SPAN, 0, b)), [[2], OUT_OF_BOUNDS], b)

    def test_the_last_is_less(self):
        for a, b in ((1, 0), (2, 1), (5, 0), (5, 4), (97, 96), (MILLION, MILLION - 1), (MILLION, 1), (MILLION + 1, 5),
                     (GREATEST, 0), (GREATEST, 5), (GREATEST, MILLION), (GREATEST, GREATEST - 1)):
            self.assertEqual(ask((BEGIN, 2), (SPAN, a, b)), [[2], OUT_OF_BOUNDS], (a, b))

    def test_above_a_million(self):
        for a in (1, 2, 97, MILLION, MILLION + 1):
            for b in (MILLION + 1, MILLION + 2, GREATEST):
                self.assertEqual(ask((BEGIN, 2), (SPAN, a, b)), [[2], OUT_OF_BOUNDS], (a, b))
        self.assertEqual(ask((BEGIN, 2), (SPAN, GREATEST, GREATEST)), [[2], OUT_OF_BOUNDS])

    def test_edges(self):
        told = ask((BEGIN, 5), (SPAN, 0, 25), (SPAN, 1, 25), (SPAN, 25, 24), (SPAN, 25, 25), (SPAN, 25, 26),
                   (SPAN, MILLION, MILLION), (SPAN, MILLION, MILLION + 1), (SPAN, MILLION + 1, MILLION + 1))
        self.assertEqual(told[1:], [[-22], [6], [-22], [2], [2], [6], [-22], [-22]])


class WhatHoldsTest(unittest.TestCase):
    def test_from_1_to_b_is_times_of_b(self):
        bs = list(range(1, 300)) + [4096, 65536, 531441, 912673, 999999, MILLION]
        for p in PRIMES:
            self.assertEqual(ask_many(p, [(SPAN, 1, b) for b in bs]), ask_many(p, [(TIMES, b) for b in bs]), p)

    def test_by_all_up_to_as_many_they_are_divided(self):
        spans = [(a, b) for a in (1, 2, 3, 5, 17, 26, 50, 97, 98, 999) for b in range(a, a + 40)]
        for a, b in spans:
            self.assertEqual(spanned(a, b) % product(b - a + 1), 0)
        spans += [(5, MILLION), (500001, MILLION), (999001, MILLION), (123456, 654321)]
        for p in PRIMES:
            told = ask_many(p, [(SPAN, a, b) for a, b in spans])
            up_to_as_many = ask_many(p, [(TIMES, b - a + 1) for a, b in spans])
            for row, least, span in zip(told, up_to_as_many, spans, strict=True):
                self.assertGreaterEqual(row[0], least[0], (p, span))

    def test_two_spans_one_behind_another_are_one(self):
        for p in PRIMES:
            told = ask((BEGIN, p), (SPAN, 7, 500), (SPAN, 501, MILLION), (SPAN, 7, MILLION))
            self.assertEqual(told[1][0] + told[2][0], told[3][0], p)


if __name__ == "__main__":
    unittest.main()
