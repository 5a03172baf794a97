"""The calls on one object, read from one list and answered in one list."""

from productsofall.primes import how_often, is_prime, noughts_at_end, product_up_to, what_is_left

NOT_BEGUN = -11
OUT_OF_BOUNDS = -22
NO_SUCH_NUMBER = -33

PRIMES_BELOW = 100
HIGHEST_NUMBER = 1000000
HIGHEST_OF_PROD = 20
HIGHEST_OF_LEAST = 600
LEAST_IS_BELOW = 700
LOWEST_BASE = 2
HIGHEST_BASE = 100

BEGIN = 0

# How many numbers stand behind a call's own number: begin, prime, prod, times, rest, least, noughts,
# span, gaps, square, twice, parts, jumps, told.
NUMBERS_BEHIND = (1, 1, 1, 1, 1, 1, 2, 2, 1, 1, 2, 1, 1, 0)


class Chosen:
    """The prime that the calls speak of; 0 until a begin is not refused."""

    def __init__(self):
        self.prime = 0


def may_be_chosen(number):
    # The bound is asked first, so that no great number is searched for divisors.
    return number < PRIMES_BELOW and is_prime(number)


def answer_begin(chosen, numbers):
    if not may_be_chosen(numbers[0]):
        return [OUT_OF_BOUNDS]
    chosen.prime = numbers[0]
    return [chosen.prime]


def answer_prime(chosen, numbers):
    if not may_be_chosen(numbers[0]):
        return [OUT_OF_BOUNDS]
    before = chosen.prime
    chosen.prime = numbers[0]
    return [before]


def answer_prod(chosen, numbers):
    n = numbers[0]
    if n > HIGHEST_OF_PROD:
        return [OUT_OF_BOUNDS]
    return [product_up_to(n)]


def answer_times(chosen, numbers):
    n = numbers[0]
    if n > HIGHEST_NUMBER:
        return [OUT_OF_BOUNDS]
    return [how_often(chosen.prime, n)]


def answer_rest(chosen, numbers):
    n = numbers[0]
    if n > HIGHEST_NUMBER:
        return [OUT_OF_BOUNDS]
    return [what_is_left(chosen.prime, n)]


def answer_least(chosen, numbers):
    wanted = numbers[0]
    if wanted > HIGHEST_OF_LEAST:
        return [OUT_OF_BOUNDS]
    for n in range(LEAST_IS_BELOW):
        often = how_often(chosen.prime, n)
        if often >= wanted:
            return [n, often]
    return [NO_SUCH_NUMBER]


def answer_noughts(chosen, numbers):
    base = numbers[0]
    n = numbers[1]
    if base < LOWEST_BASE or base > HIGHEST_BASE or n > HIGHEST_NUMBER:
        return [OUT_OF_BOUNDS]
    return [noughts_at_end(base, n)]


# Each stands at its call's number.
ANSWERING = (
    answer_begin,
    answer_prime,
    answer_prod,
    answer_times,
    answer_rest,
    answer_least,
    answer_noughts,
)


def answer_call(chosen, call, numbers):
    if call != BEGIN and chosen.prime == 0:
        return [NOT_BEGUN]
    if call >= len(ANSWERING):
        raise NotImplementedError(f"call {call} is not written yet")
    return ANSWERING[call](chosen, numbers)


def answers(calls):
    """For each call, in order, how many numbers are answered, then these."""
    chosen = Chosen()
    told = []
    at = 0
    while at < len(calls):
        call = calls[at]
        behind = at + 1 + NUMBERS_BEHIND[call]
        answer = answer_call(chosen, call, calls[at + 1:behind])
        told.append(len(answer))
        told.extend(answer)
        at = behind
    return told
