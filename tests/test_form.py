"""The interface: what is handed in and what is given back."""

import unittest

from productsofall.products import answers
from tests.reckoning import BEGIN, GREATEST, LEAST, NOUGHTS, PRIME, PROD, REST, TIMES


def refuse_change(*ignored, **also_ignored):
    raise AssertionError("what is handed in was changed")


class Untouched(list):
    """A list that can't be changed, not for a while either."""

    append = extend = insert = pop = remove = clear = sort = reverse = refuse_change
    __setitem__ = __delitem__ = __iadd__ = __imul__ = refuse_change


ALL_SEVEN = [
    BEGIN, 5, PRIME, 3, PROD, 20, TIMES, 9, REST, 9, LEAST, 3, NOUGHTS, 10, 25,
    BEGIN, 4, PRIME, 100, PROD, 21, LEAST, 601, LEAST, 600, NOUGHTS, 1, GREATEST,
]
ALL_SEVEN_ANSWERED = [
    1, 5, 1, 5, 1, 2432902008176640000, 1, 4, 1, 1, 2, 9, 4, 1, 6,
    1, -22, 1, -22, 1, -22, 1, -22, 1, -33, 1, -22,
]


class FormTest(unittest.TestCase):
    def test_one_call(self):
        self.assertEqual(answers([BEGIN, 2]), [1, 2])
        self.assertEqual(answers([BEGIN, 1]), [1, -22])
        self.assertEqual(answers([TIMES, 2]), [1, -11])
        self.assertEqual(answers([NOUGHTS, 10, 25]), [1, -11])

    def test_each_call_has_its_count_ahead(self):
        self.assertEqual(answers(ALL_SEVEN), ALL_SEVEN_ANSWERED)

    def test_eighty_calls(self):
        calls = [BEGIN, 2]
        told = [1, 2]
        calls += [LEAST, 2] * 79
        told += [2, 4, 3] * 79
        self.assertEqual(answers(calls), told)

    def test_as_many_numbers_as_may_be(self):
        self.assertEqual(answers([NOUGHTS, 10, 25] * 80), [1, -11] * 80)
        self.assertEqual(answers([BEGIN, 7] + [NOUGHTS, 10, 25] * 79), [1, 7] + [1, 6] * 79)

    def test_numbers_that_look_like_calls_are_not_read_as_such(self):
        self.assertEqual(answers([BEGIN, 2, TIMES, 0, PROD, 3, NOUGHTS, 3, 6, LEAST, 5]),
                         [1, 2, 1, 0, 1, 6, 1, 2, 2, 8, 7])

    def test_what_is_handed_in_is_the_same_afterwards(self):
        calls = list(ALL_SEVEN)
        answers(calls)
        self.assertEqual(calls, ALL_SEVEN)

    def test_what_is_handed_in_is_not_changed_for_a_while_either(self):
        self.assertEqual(answers(Untouched(ALL_SEVEN)), ALL_SEVEN_ANSWERED)

    def test_the_same_list_twice(self):
        calls = list(ALL_SEVEN)
        first = answers(calls)
        second = answers(calls)
        self.assertEqual(first, second)
        self.assertIsNot(first, second)

    def test_a_list_given_back_is_its_own(self):
        first = answers([BEGIN, 2])
        first.append(7)
        self.assertEqual(answers([BEGIN, 2]), [1, 2])

    def test_nothing_is_kept_from_one_time_to_the_next(self):
        self.assertEqual(answers([BEGIN, 3]), [1, 3])
        self.assertEqual(answers([TIMES, 9, PRIME, 2, BEGIN, 2]), [1, -11, 1, -11, 1, 2])
        self.assertEqual(answers([TIMES, 9]), [1, -11])

    def test_kinds(self):
        told = answers(ALL_SEVEN)
        self.assertIs(type(told), list)
        for number in told:
            self.assertIs(type(number), int)


if __name__ == "__main__":
    unittest.main()
