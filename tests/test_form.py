"""The interface: what is handed in and what is given back."""

import time
import unittest

from productsofall.products import answers
from tests.reckoning import (
    BEGIN, GAPS, GREATEST, JUMPS, LEAST, MILLION, NOUGHTS, PARTS, PRIME, PROD, REST, SPAN, SQUARE, TIMES, TOLD, TWICE,
)


def refuse_change(*ignored, **also_ignored):
    raise AssertionError("what is handed in was changed")


class Untouched(list):
    """A list that can't be changed, not for a while either."""

    append = extend = insert = pop = remove = clear = sort = reverse = refuse_change
    __setitem__ = __delitem__ = __iadd__ = __imul__ = refuse_change


ALL_FOURTEEN = [
    BEGIN, 5, PRIME, 3, PROD, 20, TIMES, 9, REST, 9, LEAST, 3, NOUGHTS, 10, 25,
    SPAN, 9, 27, GAPS, 27, SQUARE, 10, TWICE, 10, 5, PARTS, 60, JUMPS, 9, TOLD,
    BEGIN, 4, PRIME, 100, PROD, 21, LEAST, 601, LEAST, 600, NOUGHTS, 1, GREATEST,
    SPAN, 0, 5, GAPS, 61, SQUARE, 61, TWICE, 5, 61, PARTS, 1, JUMPS, 0, TOLD,
]
ALL_ANSWERED = [
    1, 5, 1, 5, 1, 2432902008176640000, 1, 4, 1, 1, 2, 9, 4, 1, 6,
    1, 11, 5, 4, 3, 7, 11, 12, 2, 1, 7, 1, 1, 7, 3, 2, 2, 3, 1, 5, 1, 3, 2, 2, 4, 1, 3,
    1, -22, 1, -22, 1, -22, 1, -22, 1, -33, 1, -22,
    1, -22, 1, -22, 1, -22, 1, -22, 1, -22, 1, -22, 1, 3,
]


class FormTest(unittest.TestCase):
    def test_one_call(self):
        self.assertEqual(answers([BEGIN, 2]), [1, 2])
        self.assertEqual(answers([BEGIN, 1]), [1, -22])
        self.assertEqual(answers([TIMES, 2]), [1, -11])
        self.assertEqual(answers([NOUGHTS, 10, 25]), [1, -11])
        self.assertEqual(answers([TOLD]), [1, -11])

    def test_each_call_has_its_count_ahead(self):
        self.assertEqual(answers(ALL_FOURTEEN), ALL_ANSWERED)

    def test_eighty_calls(self):
        calls = [BEGIN, 2]
        told = [1, 2]
        calls += [LEAST, 2] * 79
        told += [2, 4, 3] * 79
        self.assertEqual(answers(calls), told)

    def test_as_many_numbers_as_may_be(self):
        self.assertEqual(answers([NOUGHTS, 10, 25] * 80), [1, -11] * 80)
        self.assertEqual(answers([BEGIN, 7] + [NOUGHTS, 10, 25] * 79), [1, 7] + [1, 6] * 79)

    def test_numbers_that_look_like_calls_are_not_read_as_such(self):
        self.assertEqual(answers([BEGIN, 2, TIMES, 0, PROD, 3, NOUGHTS, 3, 6, LEAST, 5]),
                         [1, 2, 1, 0, 1, 6, 1, 2, 2, 8, 7])
        calls = [BEGIN, 7, SPAN, 7, 13, GAPS, 8, SQUARE, 9, TWICE, 10, 13, PARTS, 11, JUMPS, 12, TOLD]
        self.assertEqual(answers(calls),
                         [1, 7, 1, 1, 1, 0, 4, 3, 2, 5, 7, 1, 0, 3, 1, 11, 1, 3, 0, 1, 1, 1, 7])

    def test_what_is_handed_in_is_the_same_afterwards(self):
        calls = list(ALL_FOURTEEN)
        answers(calls)
        self.assertEqual(calls, ALL_FOURTEEN)

    def test_what_is_handed_in_is_not_changed_for_a_while_either(self):
        self.assertEqual(answers(Untouched(ALL_FOURTEEN)), ALL_ANSWERED)

    def test_the_same_list_twice(self):
        calls = list(ALL_FOURTEEN)
        first = answers(calls)
        second = answers(calls)
        self.assertEqual(first, second)
        self.assertIsNot(first, second)

    def test_a_list_given_back_is_its_own(self):
        first = answers([BEGIN, 2])
        first.append(7)
        self.assertEqual(answers([BEGIN, 2]), [1, 2])

    def test_nothing_is_kept_from_one_time_to_the_next(self):
        self.assertEqual(answers([BEGIN, 3]), [1, 3])
        self.assertEqual(answers([TIMES, 9, PRIME, 2, BEGIN, 2]), [1, -11, 1, -11, 1, 2])
        self.assertEqual(answers([TIMES, 9]), [1, -11])
        self.assertEqual(answers([TOLD, BEGIN, 5, TOLD]), [1, -11, 1, 5, 1, 5])
        self.assertEqual(answers([TOLD]), [1, -11])

    def test_kinds(self):
        told = answers(ALL_FOURTEEN)
        self.assertIs(type(told), list)
        for number in told:
            self.assertIs(type(number), int)

    def test_what_is_no_refusal_is_not_below_nought(self):
        told = answers(ALL_FOURTEEN)
        self.assertEqual({number for number in told if number < 0}, {-22, -33})


class LongestTest(unittest.TestCase):
    def check(self, *dearest):
        calls = [BEGIN, 2]
        for at in range(0, 79):
            calls.extend(dearest[at % len(dearest)])
        self.assertLessEqual(len(calls), 240)
        start = time.monotonic()
        answers(calls)
        self.assertLess(time.monotonic() - start, 3)

    def test_eighty_dear_calls_end_soon(self):
        self.check((GAPS, 60))
        self.check((TWICE, MILLION, 60))
        self.check((LEAST, 600))
        self.check((REST, MILLION))
        self.check((PRIME, 97), (LEAST, 600), (REST, MILLION))
        self.check((GAPS, 60), (TWICE, MILLION, 60), (LEAST, 600), (SQUARE, 60), (NOUGHTS, 97, MILLION))

    def test_eighty_refused_calls_end_soon(self):
        # The greatest numbers that are primes, or squares of them, are the dearest to search for divisors.
        self.check((BEGIN, 4294967291), (PRIME, 4294836221), (PARTS, 4294967291))
        self.check((SPAN, 1, GREATEST), (TWICE, GREATEST, GREATEST), (GAPS, GREATEST), (JUMPS, GREATEST))


if __name__ == "__main__":
    unittest.main()
