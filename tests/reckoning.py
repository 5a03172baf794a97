"""The tests' own reckoning, by the document's words and by none of the program's code."""

import functools

from productsofall.products import answers

BEGIN, PRIME, PROD, TIMES, REST, LEAST, NOUGHTS = range(7)
SPAN, GAPS, SQUARE, TWICE, PARTS, JUMPS, TOLD = range(7, 14)

NAMES = (
    "begin", "prime", "prod", "times", "rest", "least", "noughts",
    "span", "gaps", "square", "twice", "parts", "jumps", "told",
)
NUMBERS_BEHIND = (1, 1, 1, 1, 1, 1, 2, 2, 1, 1, 2, 1, 1, 0)

NOT_BEGUN = [-11]
OUT_OF_BOUNDS = [-22]
NO_SUCH_NUMBER = [-33]

GREATEST = 4294967295
MILLION = 1000000

PRIMES = (
    2, 3, 5, 7, 11, 13, 17, 19, 23, 29, 31, 37, 41,
    43, 47, 53, 59, 61, 67, 71, 73, 79, 83, 89, 97,
)


def split(told):
    """The answers of a list of calls, one list a call."""
    rows = []
    at = 0
    while at < len(told):
        behind = at + 1 + told[at]
        rows.append(told[at + 1:behind])
        if len(rows[-1]) != told[at]:
            raise AssertionError("an answer is shorter than its count")
        at = behind
    return rows


def ask(*calls):
    """The answers to these calls, each a tuple of the call's number and its numbers."""
    flat = []
    for call in calls:
        flat.extend(call)
    return split(answers(flat))


def ask_many(prime, calls):
    """The answers to any number of calls behind a begin, in lists that are as long as one may be."""
    rows = []
    for at in range(0, len(calls), 79):
        told = ask((BEGIN, prime), *calls[at:at + 79])
        rows.extend(told[1:])
    return rows


def product(n):
    whole = 1
    for factor in range(1, n + 1):
        whole *= factor
    return whole


def often_and_left(prime, number):
    """How often the prime divides the number, and what's left of it."""
    often = 0
    while number % prime == 0:
        number //= prime
        often += 1
    return often, number % prime


def often_and_left_by_factors(prime, n):
    """The same for the product of n, factor by factor, where the whole product is too great to divide."""
    often = 0
    left = 1
    for factor in range(1, n + 1):
        while factor % prime == 0:
            factor //= prime
            often += 1
        left = left * factor % prime
    return often, left


def digits(number, base):
    """The number written to the base, its last digit first."""
    written = []
    while number > 0:
        number, digit = divmod(number, base)
        written.append(digit)
    return written


def noughts_written(number, base):
    """With how many noughts the number ends, written to the base."""
    noughts = 0
    for digit in digits(number, base):
        if digit != 0:
            break
        noughts += 1
    return noughts


def how_often(prime, n):
    """How often the prime divides the product of n: n is its cross sum and one less than the prime as often."""
    return (n - sum(digits(n, prime))) // (prime - 1)


def spanned(first, last):
    """All numbers from first to last, multiplied."""
    whole = 1
    for factor in range(first, last + 1):
        whole *= factor
    return whole


def all_primes_up_to(n):
    return [p for p in range(2, n + 1) if all(p % d != 0 for d in range(2, p))]


@functools.cache
def never_come(prime, n):
    """The numbers up to how often the prime divides the product of n that it divides no product just so often."""
    most = often_and_left(prime, product(n))[0]
    come = []
    number = 0
    # Until the products are divided oftener than n's is: from there on none can be divided less often.
    while not come or come[-1] <= most:
        come.append(often_and_left(prime, product(number))[0])
        number += 1
    return [often for often in range(0, most + 1) if often not in come]


@functools.cache
def odd_ones(n):
    """The primes up to n that divide the product of n an odd number of times."""
    whole = product(n)
    return [p for p in all_primes_up_to(n) if often_and_left(p, whole)[0] % 2 == 1]


@functools.cache
def divides_twice(n, m):
    """1 if the product of m, multiplied by itself, divides that of n, else 0."""
    # The product of 200 divides that of any greater number, and all m up to 60 are settled at 200 already.
    if n > 200:
        if product(200) % product(m) ** 2 != 0:
            raise AssertionError("200 is too few to tell")
        return 1
    return 1 if product(n) % product(m) ** 2 == 0 else 0


def parts_of(base):
    """Of each prime that divides the base the prime and how often, the base divided by each prime in turn."""
    parts = []
    for p in all_primes_up_to(base):
        if base % p == 0:
            parts.append((p, often_and_left(p, base)[0]))
    return parts
