"""The one key, and the calls on it."""

from greatkeys.bytewise import number_of, row_of
from greatkeys.forms import fits_sealed_form, is_salted_form, plain_form, salted_form, sealed_form, sealed_message
from greatkeys.keymaking import is_exponent, is_size, key_of_primes, open_key
from greatkeys.primes import taken_for_prime

DONE = 0
WRONG_INPUT = -1
NO_KEY = -2
NOT_PUT_TOGETHER = -3
OPEN_KEY = -4
NOT_SEALED = -5

MOST_ROUNDS = 40
MOST_BYTES = 16777216

PLAIN = 0
SALTED = 1


def is_kind(kind):
    """Whether there's such a kind of signature."""
    return kind in (PLAIN, SALTED)


def is_length(row):
    """Whether a message or a label may have as many bytes as this one."""
    return len(row) <= MOST_BYTES


class Holder:
    """Holds one key, or none; each call answers a list of numbers."""

    def __init__(self):
        self.held = None

    def rs_key(self, size, exponent, modulus_row):
        self.held = None
        if not is_size(size) or not is_exponent(exponent):
            return [WRONG_INPUT]
        self.held = open_key(size, exponent, number_of(modulus_row))
        if self.held is None:
            return [WRONG_INPUT]
        return [DONE]

    def rs_make(self, size, exponent, first_row, second_row):
        self.held = None
        if not is_size(size) or not is_exponent(exponent):
            return [WRONG_INPUT]
        self.held = key_of_primes(size, exponent, number_of(first_row), number_of(second_row))
        if self.held is None:
            return [NOT_PUT_TOGETHER]
        return [DONE]

    def rs_numbers(self):
        if self.held is None:
            return [NO_KEY]
        size = self.held.size
        return [size] + row_of(self.held.modulus, size) + row_of(self.held.secret, size)

    def rs_prime(self, size, rounds, row):
        if not is_size(size) or rounds < 1 or rounds > MOST_ROUNDS:
            return [WRONG_INPUT]
        if taken_for_prime(number_of(row), rounds):
            return [1]
        return [0]

    def rs_sign(self, kind, message, salt):
        if self.held is None:
            return [NO_KEY]
        if not is_kind(kind) or not is_length(message):
            return [WRONG_INPUT]
        if self.held.is_open():
            return [OPEN_KEY]
        size = self.held.size
        if kind == PLAIN:
            form = plain_form(size, message)
        else:
            form = salted_form(size, message, salt)
        return [size] + row_of(self.held.secret_of(number_of(form)), size)

    def rs_check(self, kind, message, signature_row):
        if self.held is None:
            return [NO_KEY]
        if not is_kind(kind) or not is_length(message):
            return [WRONG_INPUT]
        if self.is_right(kind, message, signature_row):
            return [1]
        return [0]

    def is_right(self, kind, message, signature_row):
        """Whether the signature is one of the message, under the key that's held."""
        size = self.held.size
        signature = number_of(signature_row[:size])
        if signature >= self.held.modulus:
            return False
        form = row_of(self.held.open_of(signature), size)
        if kind == PLAIN:
            return form == plain_form(size, message)
        return is_salted_form(form, message)

    def rs_seal(self, label, message, seed):
        if self.held is None:
            return [NO_KEY]
        size = self.held.size
        if not is_length(label) or not fits_sealed_form(size, message):
            return [WRONG_INPUT]
        form = sealed_form(size, label, message, seed)
        return [size] + row_of(self.held.open_of(number_of(form)), size)

    def rs_unseal(self, label, sealed_row):
        if self.held is None:
            return [NO_KEY]
        if not is_length(label):
            return [WRONG_INPUT]
        if self.held.is_open():
            return [OPEN_KEY]
        size = self.held.size
        sealed = number_of(sealed_row[:size])
        if sealed >= self.held.modulus:
            return [NOT_SEALED]
        message = sealed_message(row_of(self.held.secret_of(sealed), size), label)
        if message is None:
            return [NOT_SEALED]
        return [len(message)] + message
