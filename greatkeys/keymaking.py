"""Keys, and what they are put together of."""

from greatkeys.modular import common_multiple, inverse, power
from greatkeys.primes import taken_for_prime

SIZES = (128, 256, 384, 512)
LEAST_EXPONENT = 3
ROUNDS_FOR_A_KEY = 20


class Key:
    """A key of size bytes; the secret exponent of an open key is 0."""

    def __init__(self, size, modulus, exponent, secret):
        self.size = size
        self.modulus = modulus
        self.exponent = exponent
        self.secret = secret

    def is_open(self):
        return self.secret == 0

    def open_of(self, number):
        return power(number, self.exponent, self.modulus)

    def secret_of(self, number):
        return power(number, self.secret, self.modulus)


def is_size(size):
    """Whether there's such a size."""
    return size in SIZES


def is_exponent(exponent):
    """Whether there's such an exponent."""
    return exponent >= LEAST_EXPONENT and exponent % 2 == 1


def fills(number, size):
    """Whether the number has just as many bits as size bytes have."""
    return number.bit_length() == 8 * size


def open_key(size, exponent, modulus):
    """The open key of a right size and exponent; None if the modulus isn't one of that size."""
    if not fills(modulus, size) or modulus % 2 == 0:
        return None
    return Key(size, modulus, exponent, 0)


def key_of_primes(size, exponent, first, second):
    """The key put together of two primes, with a right size and exponent; None if there's none."""
    # The bits are looked at ahead of the rest: they keep 0 and 1 away from the
    # multiple, and the many rounds are spared where a cheaper look refuses.
    if first == second or not fills(first * second, size):
        return None
    secret = inverse(exponent, common_multiple(first - 1, second - 1))
    if secret is None:
        return None
    for number in (first, second):
        if not taken_for_prime(number, ROUNDS_FOR_A_KEY):
            return None
    return Key(size, first * second, exponent, secret)
