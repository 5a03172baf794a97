"""What primes do to the product of all numbers from 1 to n."""


def is_prime(number):
    """Whether only 1 and itself divide the number, and it is 2 at least."""
    if number < 2:
        return False
    divisor = 2
    while divisor * divisor <= number:
        if number % divisor == 0:
            return False
        divisor += 1
    return True


def primes_up_to(n):
    """All primes up to n, rising."""
    return [number for number in range(2, n + 1) if is_prime(number)]


def prime_parts(number):
    """Each prime that divides the number, rising, with how often it does; the number is 1 at least."""
    parts = []
    divisor = 2
    while number > 1:
        often = 0
        while number % divisor == 0:
            number = number // divisor
            often += 1
        # The smaller primes are already divided out, so what divides here is a prime itself.
        if often > 0:
            parts.append((divisor, often))
        divisor += 1
    return parts


def product_up_to(n):
    """All numbers from 1 to n, multiplied; 1 of 0."""
    product = 1
    for factor in range(2, n + 1):
        product = product * factor
    return product


def how_often(prime, n):
    """How often the prime divides the product of n."""
    often = 0
    # The n // prime multiples give the prime once each; without it they are the numbers from 1 to n // prime.
    while n > 0:
        n = n // prime
        often += n
    return often


def how_often_from(prime, first, last):
    """How often the prime divides all numbers from first to last, multiplied; first is 1 at least."""
    return how_often(prime, last) - how_often(prime, first - 1)


def what_is_left(prime, n):
    """The product of n without the prime, and what that leaves when divided by the prime once more."""
    left = 1
    while n > 0:
        # A full run from 1 to prime - 1, multiplied, leaves prime - 1 (Wilson), and two such runs leave 1.
        if n // prime % 2 == 1:
            left = left * (prime - 1) % prime
        left = left * product_up_to(n % prime) % prime
        # The multiples, each divided by the prime, are the numbers from 1 to n // prime.
        n = n // prime
    return left


def noughts_at_end(base, n):
    """With how many noughts the product of n ends, written to the base."""
    # A power of the base divides only as far as the scarcest of its primes goes.
    return min([how_often(prime, n) // often for prime, often in prime_parts(base)])


def leapt_over(prime, n):
    """The numbers, up to how often the prime divides the product of n, that no product has just so often, rising."""
    leapt = []
    before = 0
    # How often never falls from one product to the next, so no product behind n's makes up for a number left out.
    for number in range(1, n + 1):
        often = how_often(prime, number)
        leapt.extend(list(range(before + 1, often)))
        before = often
    return leapt


def odd_primes(n):
    """The primes, up to n, that divide the product of n an odd number of times."""
    return [prime for prime in primes_up_to(n) if how_often(prime, n) % 2 == 1]


def square_divides(m, n):
    """Whether the product of m, multiplied by itself, divides the product of n."""
    # Prime by prime, since the product of a great n is too long to be multiplied out.
    for prime in primes_up_to(m):
        if 2 * how_often(prime, m) > how_often(prime, n):
            return False
    return True
