"""All fourteen calls mixed, against the tests' own reckoning, and each promise's bounds on both sides."""

import functools
import random
import unittest

from productsofall.products import answers
from tests.reckoning import (
    BEGIN, GREATEST, MILLION, NAMES, NO_SUCH_NUMBER, NOT_BEGUN, NUMBERS_BEHIND, OUT_OF_BOUNDS, PRIME, PRIMES, TOLD,
    divides_twice, how_often, never_come, odd_ones, parts_of, product, split,
)

EDGES = (
    0, 1, 2, 3, 4, 9, 19, 20, 21, 25, 59, 60, 61, 64, 96, 97, 98, 99, 100, 101, 120, 128, 599, 600, 601, 699, 700,
    9408, 9409, 65536, 531440, 531441, 999999, MILLION, MILLION + 1, 4294967291, GREATEST,
)
LOW = 800


@functools.cache
def left_of_each(prime):
    """What's left of the product of each number below LOW, and of each edge up to a million."""
    left = {0: 1}
    kept = set(range(1, LOW)) | set(EDGES)
    now = 1
    for n in range(1, MILLION + 1):
        factor = n
        while factor % prime == 0:
            factor //= prime
        now = now * factor % prime
        if n in kept:
            left[n] = now
    return left


@functools.cache
def least_by_looking(prime, wanted):
    for n in range(0, 700):
        if how_often(prime, n) >= wanted:
            return [n, how_often(prime, n)]
    return NO_SUCH_NUMBER


def flat_parts(base):
    row = [len(parts_of(base))]
    for p, often in parts_of(base):
        row += [p, often]
    return row


class Reckoned:
    """One object by the document's words; each method is a call that is taken, or None where it is -22."""

    def __init__(self):
        self.p = None

    def begin(self, p):
        if p not in PRIMES:
            return None
        self.p = p
        return [p]

    def prime(self, q):
        if q not in PRIMES:
            return None
        was = self.p
        self.p = q
        return [was]

    def prod(self, n):
        return [product(n)] if n <= 20 else None

    def times(self, n):
        return [how_often(self.p, n)] if n <= MILLION else None

    def rest(self, n):
        return [left_of_each(self.p)[n]] if n <= MILLION else None

    def least(self, k):
        return least_by_looking(self.p, k) if k <= 600 else None

    def noughts(self, b, n):
        if not 2 <= b <= 100 or n > MILLION:
            return None
        return [min(how_often(p, n) // often for p, often in parts_of(b))]

    def span(self, a, b):
        return [how_often(self.p, b) - how_often(self.p, a - 1)] if 1 <= a <= b <= MILLION else None

    def gaps(self, n):
        return [len(never_come(self.p, n))] + never_come(self.p, n) if n <= 60 else None

    def square(self, n):
        return [len(odd_ones(n))] + odd_ones(n) if n <= 60 else None

    def twice(self, n, m):
        return [divides_twice(n, m)] if m <= 60 and n <= MILLION else None

    def parts(self, b):
        return flat_parts(b) if 2 <= b <= 100 else None

    def jumps(self, n):
        if not 1 <= n <= MILLION:
            return None
        fewer, whole = how_often(self.p, n - 1), how_often(self.p, n)
        return [whole - fewer, fewer, whole]

    def told(self):
        return [self.p]

    def answer(self, call):
        if call[0] != BEGIN and self.p is None:
            return NOT_BEGUN
        told = getattr(self, NAMES[call[0]])(*call[1:])
        return OUT_OF_BOUNDS if told is None else told


def reckon(calls):
    thing = Reckoned()
    return [thing.answer(call) for call in calls]


class Drawer:
    """Draws lists of calls; each seed draws the same ones for ever."""

    def __init__(self, seed):
        self.source = random.Random(seed)

    def number(self):
        sort = self.source.randrange(10)
        if sort < 4:
            return self.source.randrange(0, 66)
        if sort < 6:
            return self.source.randrange(0, LOW)
        return self.source.choice(EDGES)

    def call(self):
        number = self.source.randrange(len(NAMES))
        if number in (BEGIN, PRIME) and self.source.randrange(3) > 0:
            return (number, self.source.choice(PRIMES))
        return (number,) + tuple(self.number() for each in range(NUMBERS_BEHIND[number]))

    def calls(self):
        drawn = [self.call() for each in range(self.source.randrange(1, 81))]
        # One in four is left as it is, so that calls ahead of any begin come too.
        if self.source.randrange(4) > 0:
            drawn[0] = (BEGIN, self.source.choice(PRIMES))
        return drawn


def flat(calls):
    return [number for call in calls for number in call]


class MixedTest(unittest.TestCase):
    def test_against_the_reckoning(self):
        for seed in range(0, 600):
            calls = Drawer(seed).calls()
            handed = flat(calls)
            before = list(handed)
            told = answers(handed)
            self.assertEqual(handed, before, seed)
            self.assertEqual(answers(handed), told, seed)
            self.assertIs(type(told), list)
            self.assertTrue(all(type(number) is int for number in told), seed)
            rows = split(told)
            self.assertEqual(len(rows), len(calls), seed)
            for call, row, wanted in zip(calls, rows, reckon(calls), strict=True):
                self.assertEqual(row, wanted, (seed, call))
                self.assertTrue(len(row) == 1 and row[0] in (-11, -22, -33) or min(row) >= 0, (seed, call))

    def test_what_is_drawn_holds_each_call_taken_and_refused(self):
        seen = {}
        for seed in range(0, 600):
            calls = Drawer(seed).calls()
            for call, row in zip(calls, reckon(calls), strict=True):
                seen[(NAMES[call[0]], row[0] if row[0] < 0 else "taken")] = True
        for name in NAMES:
            self.assertIn((name, "taken"), seen)
            if name != "begin":
                self.assertIn((name, -11), seen)
            if name != "told":
                self.assertIn((name, -22), seen)
        self.assertIn(("least", -33), seen)

    def test_each_call_at_all_edges(self):
        for p in (2, 7, 97):
            for number in range(2, len(NAMES)):
                calls = [(number,) + numbers for numbers in self.at_edges(NUMBERS_BEHIND[number])]
                for at in range(0, len(calls), 39):
                    asked = [(BEGIN, p)]
                    for call in calls[at:at + 39]:
                        asked += [call, (TOLD,)]
                    told = split(answers(flat(asked)))
                    for call, row, wanted in zip(asked, told, reckon(asked), strict=True):
                        self.assertEqual(row, wanted, (p, call))

    def at_edges(self, behind):
        if behind == 0:
            return [()]
        if behind == 1:
            return [(n,) for n in EDGES]
        return [(a, b) for a in EDGES for b in EDGES]


if __name__ == "__main__":
    unittest.main()
