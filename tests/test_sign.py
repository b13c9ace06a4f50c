"""Point 4, rs_sign."""

import unittest

from greatkeys.holder import Holder
from tests.calls import NO_KINDS, SIZES, ask, key_without_bytes, make, make_without_bytes, numbers, row, sign
from tests.model import SampleKey, mask, plain, salted, salted_sum
from tests.openssl_samples import MESSAGES, PLAIN_SIGNATURES, SALTED_SIGNATURES, SALTS
from tests.samples import KEY_PRIMES, LONG, PASSES_TWENTY

KEY = SampleKey(128)
SALT = bytes(range(100, 132))


def answered(signature):
    """What rs_sign answers of such a signature."""
    return [len(signature)] + list(signature)


class Refusals(unittest.TestCase):
    def test_no_key(self):
        for kind in (0, 1):
            with self.subTest(kind=kind):
                self.assertEqual(ask(sign(kind, b"abc", SALT)), [[-2]])
                self.assertEqual(ask(sign(kind, b"", SALT)), [[-2]])

    def test_no_key_is_told_ahead_of_a_wrong_kind(self):
        for kind in NO_KINDS:
            with self.subTest(kind=kind):
                self.assertEqual(ask(sign(kind, b"abc", SALT)), [[-2]])

    def test_no_key_after_one_that_was_refused(self):
        got = ask(KEY.made(), key_without_bytes(5, 3), sign(0, b"abc"), KEY.made(), make_without_bytes(5, 3),
                  sign(1, b"abc"), KEY.made(), make(128, 3, KEY_PRIMES[128][0], 15), sign(1, b"abc"))
        self.assertEqual(got, [[0], [-1], [-2], [0], [-1], [-2], [0], [-3], [-2]])

    def test_no_such_kind(self):
        calls = [sign(kind, b"abc", SALT) for kind in NO_KINDS]
        self.assertEqual(ask(KEY.made(), *calls), [[0]] + [[-1]] * len(NO_KINDS))

    def test_no_such_kind_is_told_ahead_of_an_open_key(self):
        calls = [sign(kind, b"abc", SALT) for kind in NO_KINDS]
        self.assertEqual(ask(KEY.opened(), *calls), [[0]] + [[-1]] * len(NO_KINDS))

    def test_an_open_key(self):
        for size in SIZES:
            with self.subTest(size=size):
                opened = SampleKey(size).opened()
                got = ask(opened, sign(0, b"abc", SALT), sign(1, b"abc", SALT), sign(0, b""), sign(1, b""))
                self.assertEqual(got, [[0], [-4], [-4], [-4], [-4]])

    def test_an_open_key_in_the_place_of_a_made_one(self):
        self.assertEqual(ask(KEY.made(), KEY.opened(), sign(0, b"abc")), [[0], [0], [-4]])

    def test_the_most_bytes_of_a_message(self):
        # No list of calls has room for so many: only the one who holds the key can be asked.
        holder = Holder()
        self.assertEqual(holder.rs_key(128, 65537, row(KEY.modulus, 128)), [0])
        message = [0] * 16777216
        self.assertEqual(holder.rs_sign(0, message, [0] * 32), [-4])
        message.append(0)
        self.assertEqual(holder.rs_sign(0, message, [0] * 32), [-1])
        self.assertEqual(holder.rs_sign(1, message, [0] * 32), [-1])

    def test_the_key_is_as_it_was(self):
        got = ask(KEY.made(), numbers(), sign(2, b"abc"), numbers())
        self.assertEqual(got[2:], [[-1], got[1]])
        got = ask(KEY.opened(), numbers(), sign(2, b"abc"), numbers(), sign(0, b"abc"), numbers())
        self.assertEqual(got[2:], [[-1], got[1], [-4], got[1]])


class Signatures(unittest.TestCase):
    def test_plain_as_openssl_signs(self):
        for size in SIZES:
            with self.subTest(size=size):
                got = ask(SampleKey(size).made(), sign(0, MESSAGES[size]))
                self.assertEqual(got, [[0], answered(PLAIN_SIGNATURES[size])])

    def test_salted_as_openssl_signs(self):
        for size in SIZES:
            with self.subTest(size=size):
                got = ask(SampleKey(size).made(), sign(1, MESSAGES[size], SALTS[size]))
                self.assertEqual(got, [[0], answered(SALTED_SIGNATURES[size])])

    def test_other_exponents(self):
        for exponent in (3, 4294967295):
            with self.subTest(exponent=exponent):
                known = SampleKey(128, exponent)
                got = ask(known.made(), sign(0, b"abc", SALT), sign(1, b"abc", SALT))
                self.assertEqual(got[1], answered(known.secret_of(plain(128, b"abc"))))
                self.assertEqual(got[2], answered(known.secret_of(salted(128, b"abc", SALT))))

    def test_messages_of_many_lengths(self):
        for length in (0, 1, 55, 56, 64, 119, 120, 3000, 29000):
            with self.subTest(length=length):
                message = LONG[:length]
                got = ask(KEY.made(), sign(0, message, SALT), sign(1, message, SALT))
                self.assertEqual(got[1], answered(KEY.secret_of(plain(128, message))))
                self.assertEqual(got[2], answered(KEY.secret_of(salted(128, message, SALT))))

    def test_the_salt_tells_nothing_in_the_plain_form(self):
        salts = [bytes(32), b"\xff" * 32, SALT]
        got = ask(KEY.made(), *[sign(0, b"abc", salt) for salt in salts])
        self.assertEqual(got[1:], [answered(KEY.secret_of(plain(128, b"abc")))] * 3)

    def test_each_byte_of_the_salt_tells(self):
        salts = [bytes(place) + b"\1" + bytes(31 - place) for place in range(32)] + [bytes(32), b"\xff" * 32]
        got = ask(KEY.made(), *[sign(1, b"abc", salt) for salt in salts])
        for salt, answer in zip(salts, got[1:], strict=True):
            self.assertEqual(answer, answered(KEY.secret_of(salted(128, b"abc", salt))))
        self.assertEqual(len({tuple(answer) for answer in got[1:]}), 34)

    def test_the_highest_bit_lost_or_not_there(self):
        seen = set()
        for number in range(12):
            salt = bytes([number]) * 32
            seen.add(mask(salted_sum(b"abc", salt), 1)[0] >= 128)
            got = ask(KEY.made(), sign(1, b"abc", salt))
            self.assertEqual(got[1], answered(KEY.secret_of(salted(128, b"abc", salt))))
        self.assertEqual(seen, {True, False})

    def test_a_signature_with_a_byte_0_ahead(self):
        got = ask(KEY.made(), sign(0, b"275"))
        self.assertEqual(got[1][:2], [128, 0])
        self.assertEqual(got[1], answered(KEY.secret_of(plain(128, b"275"))))

    def test_a_number_that_is_only_taken_for_a_prime(self):
        for primes in ((PASSES_TWENTY, KEY_PRIMES[128][0]), (KEY_PRIMES[128][0], PASSES_TWENTY)):
            known = SampleKey(128, 65537, primes)
            got = ask(known.made(), sign(0, b"abc", SALT), sign(1, b"abc", SALT))
            self.assertEqual(got[1], answered(known.secret_of(plain(128, b"abc"))))
            self.assertEqual(got[2], answered(known.secret_of(salted(128, b"abc", SALT))))

    def test_signing_changes_nothing(self):
        got = ask(KEY.made(), numbers(), sign(0, b"abc"), sign(1, b"abc"), numbers(), sign(0, b"abc"), sign(1, b"abc"))
        self.assertEqual(got[1], got[4])
        self.assertEqual(got[2:4], got[5:7])
