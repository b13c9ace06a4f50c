"""Lists of calls drawn by chance, the same for the same seed, each call with what it must answer."""

import random

from tests.calls import (
    NO_KINDS, NO_SIZES, check, held, key, key_without_bytes, make, make_without_bytes, numbers, prime,
    prime_without_bytes, seal, sign, unseal,
)
from tests.model import SampleKey, is_salted, plain, salted, sealed, unsealed
from tests.samples import KEY_PRIMES, PASSES_TWELVE

KEYS = (SampleKey(128), SampleKey(128, 3), SampleKey(128, 4294967295), SampleKey(256))
FIRST, SECOND = KEY_PRIMES[128]
LABELS = (b"", b"label", b"another label", bytes(200))


class Script:
    def __init__(self, seed):
        self.chance = random.Random(seed)
        self.known = None
        self.is_open = False

    def steps(self, many):
        """So many calls, and as many answers."""
        drawn = (
            self.rs_key, self.rs_make, self.rs_numbers, self.rs_prime,
            self.rs_sign, self.rs_check, self.rs_seal, self.rs_unseal,
        )
        return [self.chance.choice(drawn)() for step in range(many)]

    def some_bytes(self, most):
        return self.chance.randbytes(self.chance.randint(0, most))

    def likely(self, in_how_many):
        """True but for one time in so many."""
        return self.chance.randrange(in_how_many) != 0

    def rs_key(self):
        if self.likely(5):
            self.known = self.chance.choice(KEYS)
            self.is_open = True
            return self.known.opened(), [0]
        self.known = None
        wrong = self.chance.choice((
            key_without_bytes(self.chance.choice(NO_SIZES), 3), key(128, 65536, 2 ** 1024 - 1),
            key(128, 1, 2 ** 1024 - 1), key(128, 3, 2 ** 1023 - 1), key(128, 3, 2 ** 1024 - 2),
        ))
        return wrong, [-1]

    def rs_make(self):
        if self.likely(5):
            self.known = self.chance.choice(KEYS)
            self.is_open = False
            return self.known.made(), [0]
        self.known = None
        return self.chance.choice((
            (make_without_bytes(self.chance.choice(NO_SIZES), 3), [-1]), (make(128, 4, FIRST, SECOND), [-1]),
            (make(128, 3, FIRST, FIRST), [-3]), (make(128, 3, FIRST, 7), [-3]), (make(128, 3, FIRST, SECOND + 2), [-3]),
        ))

    def rs_numbers(self):
        if self.known is None:
            return numbers(), [-2]
        return numbers(), held(self.known.size, self.known.modulus, 0 if self.is_open else self.known.secret)

    def rs_prime(self):
        return self.chance.choice((
            (prime(128, 12, PASSES_TWELVE), [1]), (prime(128, 13, PASSES_TWELVE), [0]), (prime(128, 20, FIRST), [1]),
            (prime(256, 1, 1999), [1]), (prime(128, 40, FIRST * SECOND), [0]), (prime(128, 0, 7), [-1]),
            (prime(128, 41, 7), [-1]), (prime_without_bytes(self.chance.choice(NO_SIZES), 1), [-1]),
        ))

    def a_kind(self):
        return self.chance.randrange(2) if self.likely(8) else self.chance.choice(NO_KINDS)

    def form(self, kind, message, salt):
        if kind == 0:
            return plain(self.known.size, message)
        return salted(self.known.size, message, salt)

    def rs_sign(self):
        kind = self.a_kind()
        message = self.some_bytes(150)
        salt = self.chance.randbytes(32)
        call = sign(kind, message, salt)
        if self.known is None:
            return call, [-2]
        if kind not in (0, 1):
            return call, [-1]
        if self.is_open:
            return call, [-4]
        return call, [self.known.size] + list(self.known.secret_of(self.form(kind, message, salt)))

    def rs_check(self):
        kind = self.a_kind()
        message = self.some_bytes(150)
        rest = self.chance.randbytes(512)
        if self.known is None:
            return check(kind, message, rest), [-2]
        size = self.known.size
        signature = self.chance.randbytes(size)
        if self.likely(4):
            signature = self.known.secret_of(self.form(self.chance.randrange(2), message, self.chance.randbytes(32)))
        call = check(kind, message, signature + rest[size:])
        if kind not in (0, 1):
            return call, [-1]
        if int.from_bytes(signature, "big") >= self.known.modulus:
            return call, [0]
        form = self.known.open_of(signature)
        return call, [int(form == plain(size, message) if kind == 0 else is_salted(form, message))]

    def rs_seal(self):
        label = self.chance.choice(LABELS)
        message = self.some_bytes(75)
        seed = self.chance.randbytes(32)
        call = seal(label, message, seed)
        if self.known is None:
            return call, [-2]
        size = self.known.size
        if len(message) > size - 66:
            return call, [-1]
        return call, [size] + list(self.known.open_of(sealed(size, label, message, seed)))

    def rs_unseal(self):
        label = self.chance.choice(LABELS)
        rest = self.chance.randbytes(512)
        if self.known is None:
            return unseal(label, rest), [-2]
        size = self.known.size
        right = self.chance.randbytes(size)
        if self.likely(4):
            sealed_under = label if self.likely(4) else self.chance.choice(LABELS)
            right = self.known.open_of(sealed(size, sealed_under, self.some_bytes(62), self.chance.randbytes(32)))
        call = unseal(label, right + rest[size:])
        if self.is_open:
            return call, [-4]
        if int.from_bytes(right, "big") >= self.known.modulus:
            return call, [-5]
        message = unsealed(self.known.secret_of(right), label)
        return call, [-5] if message is None else [len(message)] + list(message)
