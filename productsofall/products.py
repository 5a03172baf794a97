"""The calls on one object, read from one list and answered in one list."""

from productsofall.primes import how_often, how_often_from, is_prime, leapt_over, noughts_at_end, odd_primes
from productsofall.primes import prime_parts, product_up_to, square_divides, what_is_left

NOT_BEGUN = -11
OUT_OF_BOUNDS = -22
NO_SUCH_NUMBER = -33

PRIMES_BELOW = 100
HIGHEST_NUMBER = 1000000
HIGHEST_OF_PROD = 20
HIGHEST_OF_LEAST = 600
LEAST_IS_BELOW = 700
HIGHEST_OF_GAPS = 60
HIGHEST_OF_SQUARE = 60
HIGHEST_TAKEN_TWICE = 60
LOWEST_BASE = 2
HIGHEST_BASE = 100

BEGIN = 0

# How many numbers stand behind a call's own number: begin, prime, prod, times, rest, least, noughts,
# span, gaps, square, twice, parts, jumps, told.
NUMBERS_BEHIND = (1, 1, 1, 1, 1, 1, 2, 2, 1, 1, 2, 1, 1, 0)


class Chosen:
    """The prime that the calls speak of; 0 until a begin is not refused."""

    def __init__(self):
        self.prime = 0


def may_be_chosen(number):
    # The bound is asked first, so that no great number is searched for divisors.
    return number < PRIMES_BELOW and is_prime(number)


def may_be_base(number):
    return LOWEST_BASE <= number and number <= HIGHEST_BASE


def answer_begin(chosen, numbers):
    if not may_be_chosen(numbers[0]):
        return [OUT_OF_BOUNDS]
    chosen.prime = numbers[0]
    return [chosen.prime]


def answer_prime(chosen, numbers):
    if not may_be_chosen(numbers[0]):
        return [OUT_OF_BOUNDS]
    before = chosen.prime
    chosen.prime = numbers[0]
    return [before]


def answer_prod(chosen, numbers):
    n = numbers[0]
    if n > HIGHEST_OF_PROD:
        return [OUT_OF_BOUNDS]
    return [product_up_to(n)]


def answer_times(chosen, numbers):
    n = numbers[0]
    if n > HIGHEST_NUMBER:
        return [OUT_OF_BOUNDS]
    return [how_often(chosen.prime, n)]


def answer_rest(chosen, numbers):
    n = numbers[0]
    if n > HIGHEST_NUMBER:
        return [OUT_OF_BOUNDS]
    return [what_is_left(chosen.prime, n)]


def answer_least(chosen, numbers):
    wanted = numbers[0]
    if wanted > HIGHEST_OF_LEAST:
        return [OUT_OF_BOUNDS]
    for n in range(LEAST_IS_BELOW):
        often = how_often(chosen.prime, n)
        if often >= wanted:
            return [n, often]
    return [NO_SUCH_NUMBER]


def answer_noughts(chosen, numbers):
    base = numbers[0]
    n = numbers[1]
    if not may_be_base(base) or n > HIGHEST_NUMBER:
        return [OUT_OF_BOUNDS]
    return [noughts_at_end(base, n)]


def answer_span(chosen, numbers):
    first = numbers[0]
    last = numbers[1]
    # The first is not above the last here, so the last's bound is the first's too.
    if first == 0 or last < first or last > HIGHEST_NUMBER:
        return [OUT_OF_BOUNDS]
    return [how_often_from(chosen.prime, first, last)]


def answer_gaps(chosen, numbers):
    n = numbers[0]
    if n > HIGHEST_OF_GAPS:
        return [OUT_OF_BOUNDS]
    leapt = leapt_over(chosen.prime, n)
    return [len(leapt)] + leapt


def answer_square(chosen, numbers):
    n = numbers[0]
    if n > HIGHEST_OF_SQUARE:
        return [OUT_OF_BOUNDS]
    odd = odd_primes(n)
    return [len(odd)] + odd


def answer_twice(chosen, numbers):
    n = numbers[0]
    m = numbers[1]
    if m > HIGHEST_TAKEN_TWICE or n > HIGHEST_NUMBER:
        return [OUT_OF_BOUNDS]
    return [1 if square_divides(m, n) else 0]


def answer_parts(chosen, numbers):
    base = numbers[0]
    if not may_be_base(base):
        return [OUT_OF_BOUNDS]
    parts = prime_parts(base)
    answer = [len(parts)]
    for prime, often in parts:
        answer.extend([prime, often])
    return answer


def answer_jumps(chosen, numbers):
    n = numbers[0]
    if n == 0 or n > HIGHEST_NUMBER:
        return [OUT_OF_BOUNDS]
    before = how_often(chosen.prime, n - 1)
    often = how_often(chosen.prime, n)
    return [often - before, before, often]


def answer_told(chosen, numbers):
    return [chosen.prime]


# Each stands at its call's number.
ANSWERING = (
    answer_begin,
    answer_prime,
    answer_prod,
    answer_times,
    answer_rest,
    answer_least,
    answer_noughts,
    answer_span,
    answer_gaps,
    answer_square,
    answer_twice,
    answer_parts,
    answer_jumps,
    answer_told,
)


def answer_call(chosen, call, numbers):
    if call != BEGIN and chosen.prime == 0:
        return [NOT_BEGUN]
    return ANSWERING[call](chosen, numbers)


def answers(calls):
    """For each call, in order, how many numbers are answered, then these."""
    chosen = Chosen()
    told = []
    at = 0
    while at < len(calls):
        call = calls[at]
        behind = at + 1 + NUMBERS_BEHIND[call]
        answer = answer_call(chosen, call, calls[at + 1:behind])
        told.append(len(answer))
        told.extend(answer)
        at = behind
    return told
