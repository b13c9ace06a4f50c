"""Numbers tried as primes."""

from greatkeys.modular import power

SMALL_LIMIT = 2000


def primes_below(limit):
    """The primes below limit, the least first."""
    crossed_out = [False] * limit
    primes = []
    for number in range(2, limit):
        if not crossed_out[number]:
            primes.append(number)
            for multiple in range(number * number, limit, number):
                crossed_out[multiple] = True
    return primes


def tells_against(base, number):
    """Whether the base shows that the odd number is no prime."""
    odd_part = number - 1
    halvings = 0
    while odd_part % 2 == 0:
        odd_part = odd_part // 2
        halvings += 1
    reached = power(base, odd_part, number)
    if reached == 1:
        return False
    for squaring in range(halvings):
        if reached == number - 1:
            return False
        reached = reached * reached % number
    return True


def taken_for_prime(number, rounds):
    """Whether the number is taken for a prime, tried with that many rounds."""
    primes = primes_below(SMALL_LIMIT)
    if number < SMALL_LIMIT:
        return number in primes
    if any([number % prime == 0 for prime in primes]):
        return False
    # From here on no base is a multiple of the number: each is below the limit.
    for base in primes[:rounds]:
        if tells_against(base, number):
            return False
    return True
