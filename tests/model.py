"""The forms, keys and calls once more, by Python's own sums and powers, to hold the program's answers against."""

import hashlib
import math

from tests.calls import key, make
from tests.samples import KEY_PRIMES

SUM_SIGN = bytes.fromhex("3031300d060960864801650304020105000420")


def sha256(message):
    return hashlib.sha256(bytes(message)).digest()


def mask(seed, size):
    return b"".join(sha256(seed + turn.to_bytes(4, "big")) for turn in range(size // 32 + 1))[:size]


def masked(row, seed):
    return bytes(one ^ other for one, other in zip(row, mask(seed, len(row)), strict=True))


def plain(size, message):
    end = b"\0" + SUM_SIGN + sha256(message)
    return b"\0\1" + b"\xff" * (size - 2 - len(end)) + end


def salted_sum(message, salt):
    return sha256(bytes(8) + sha256(message) + salt)


def salted_of(front, summed, end=b"\xbc"):
    """A salted form of any bytes ahead of the sum."""
    hidden = bytearray(masked(front, summed))
    hidden[0] &= 127
    return bytes(hidden) + summed + end


def salted(size, message, salt):
    return salted_of(bytes(size - len(salt) - 34) + b"\1" + salt, salted_sum(message, salt))


def is_salted(form, message):
    """As RFC 8017 checks it, step by step."""
    size = len(form)
    hidden, summed, end = form[:size - 33], form[size - 33:size - 1], form[size - 1]
    if end != 0xbc or hidden[0] & 128:
        return False
    front = bytearray(masked(hidden, summed))
    front[0] &= 127
    if any(front[:size - 66]) or front[size - 66] != 1:
        return False
    return salted_sum(message, bytes(front[size - 65:])) == summed


def sealed_of(block, seed, first=b"\0"):
    """A sealed form of any bytes in the place of the label's sum, the bytes 0, the 1 and the message."""
    hidden = masked(block, seed)
    return first + masked(seed, hidden) + hidden


def sealed(size, label, message, seed):
    return sealed_of(sha256(label) + bytes(size - 66 - len(message)) + b"\1" + message, seed)


def unsealed(form, label):
    """The message of a sealed form; None if it isn't one."""
    block = masked(form[33:], masked(form[1:33], form[33:]))
    ahead, one, message = block[32:].partition(b"\1")
    if form[0] != 0 or block[:32] != sha256(label) or any(ahead) or one == b"":
        return None
    return message


class SampleKey:
    """A key of two primes, each as handed in or as the sample has them."""

    def __init__(self, size, exponent=65537, primes=None):
        self.size = size
        self.exponent = exponent
        self.primes = primes or KEY_PRIMES[size]
        first, second = self.primes
        self.modulus = first * second
        self.secret = pow(exponent, -1, math.lcm(first - 1, second - 1))

    def made(self):
        return make(self.size, self.exponent, *self.primes)

    def opened(self):
        return key(self.size, self.exponent, self.modulus)

    def open_of(self, form):
        return pow(int.from_bytes(form, "big"), self.exponent, self.modulus).to_bytes(self.size, "big")

    def secret_of(self, form):
        """What has this form as its open; a form that isn't below n would come out as another one."""
        number = int.from_bytes(form, "big")
        assert number < self.modulus, "the form isn't below n"
        return pow(number, self.secret, self.modulus).to_bytes(self.size, "big")

    def plus_modulus(self, row):
        """The bytes of the number with n added; None if these are too few for it."""
        number = int.from_bytes(row, "big") + self.modulus
        if number.bit_length() > 8 * self.size:
            return None
        return number.to_bytes(self.size, "big")
