"""The one key, and the calls on it."""

from greatkeys.bytewise import number_of, row_of
from greatkeys.keymaking import is_exponent, is_size, key_of_primes, open_key
from greatkeys.primes import taken_for_prime

DONE = 0
WRONG_INPUT = -1
NO_KEY = -2
NOT_PUT_TOGETHER = -3

MOST_ROUNDS = 40


class Holder:
    """Holds one key, or none; each call answers a list of numbers."""

    def __init__(self):
        self.held = None

    def rs_key(self, size, exponent, modulus_row):
        self.held = None
        if not is_size(size) or not is_exponent(exponent):
            return [WRONG_INPUT]
        self.held = open_key(size, exponent, number_of(modulus_row))
        if self.held is None:
            return [WRONG_INPUT]
        return [DONE]

    def rs_make(self, size, exponent, first_row, second_row):
        self.held = None
        if not is_size(size) or not is_exponent(exponent):
            return [WRONG_INPUT]
        self.held = key_of_primes(size, exponent, number_of(first_row), number_of(second_row))
        if self.held is None:
            return [NOT_PUT_TOGETHER]
        return [DONE]

    def rs_numbers(self):
        if self.held is None:
            return [NO_KEY]
        size = self.held.size
        return [size] + row_of(self.held.modulus, size) + row_of(self.held.secret, size)

    def rs_prime(self, size, rounds, row):
        if not is_size(size) or rounds < 1 or rounds > MOST_ROUNDS:
            return [WRONG_INPUT]
        if taken_for_prime(number_of(row), rounds):
            return [1]
        return [0]
