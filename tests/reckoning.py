"""The tests' own reckoning, by the document's words and by none of the program's code."""

from productsofall.products import answers

BEGIN, PRIME, PROD, TIMES, REST, LEAST, NOUGHTS = range(7)
SPAN, GAPS, SQUARE, TWICE, PARTS, JUMPS, TOLD = range(7, 14)

NAMES = (
    "begin", "prime", "prod", "times", "rest", "least", "noughts",
    "span", "gaps", "square", "twice", "parts", "jumps", "told",
)
NUMBERS_BEHIND = (1, 1, 1, 1, 1, 1, 2, 2, 1, 1, 2, 1, 1, 0)

NOT_BEGUN = [-11]
OUT_OF_BOUNDS = [-22]
NO_SUCH_NUMBER = [-33]

GREATEST = 4294967295
MILLION = 1000000

PRIMES = (
    2, 3, 5, 7, 11, 13, 17, 19, 23, 29, 31, 37, 41,
    43, 47, 53, 59, 61, 67, 71, 73, 79, 83, 89, 97,
)


def split(told):
    """The answers of a list of calls, one list a call."""
    rows = []
    at = 0
    while at < len(told):
        behind = at + 1 + told[at]
        rows.append(told[at + 1:behind])
        if len(rows[-1]) != told[at]:
            raise AssertionError("an answer is shorter than its count")
        at = behind
    return rows


def ask(*calls):
    """The answers to these calls, each a tuple of the call's number and its numbers."""
    flat = []
    for call in calls:
        flat.extend(call)
    return split(answers(flat))


def ask_many(prime, calls):
    """The answers to any number of calls behind a begin, in lists that are as long as one may be."""
    rows = []
    for at in range(0, len(calls), 79):
        told = ask((BEGIN, prime), *calls[at:at + 79])
        rows.extend(told[1:])
    return rows


def product(n):
    whole = 1
    for factor in range(1, n + 1):
        whole *= factor
    return whole


def often_and_left(prime, number):
    """How often the prime divides the number, and what's left of it."""
    often = 0
    while number % prime == 0:
        number //= prime
        often += 1
    return often, number % prime


def often_and_left_by_factors(prime, n):
    """The same for the product of n, factor by factor, where the whole product is too great to divide."""
    often = 0
    left = 1
    for factor in range(1, n + 1):
        while factor % prime == 0:
            factor //= prime
            often += 1
        left = left * factor % prime
    return often, left


def digits(number, base):
    """The number written to the base, its last digit first."""
    written = []
    while number > 0:
        number, digit = divmod(number, base)
        written.append(digit)
    return written


def noughts_written(number, base):
    """With how many noughts the number ends, written to the base."""
    noughts = 0
    for digit in digits(number, base):
        if digit != 0:
            break
        noughts += 1
    return noughts
