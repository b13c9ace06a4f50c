"""Point 5, rs_seal."""

import unittest

from greatkeys.holder import Holder
from tests.calls import SIZES, ask, key_without_bytes, numbers, row, seal, unseal
from tests.model import SampleKey, sealed, sha256
from tests.openssl_samples import LABELS, SEALED, SECRETS, SEEDS
from tests.samples import LONG

KEY = SampleKey(128)
SEED = bytes(range(200, 232))


def answered(known, label, message, seed):
    """What rs_seal answers under the key."""
    return [known.size] + list(known.open_of(sealed(known.size, label, message, seed)))


class Refusals(unittest.TestCase):
    def test_no_key(self):
        for message in (b"", b"abc", bytes(62), bytes(63), LONG[:1000]):
            with self.subTest(length=len(message)):
                self.assertEqual(ask(seal(b"", message), seal(b"label", message)), [[-2], [-2]])

    def test_no_key_after_one_that_was_refused(self):
        self.assertEqual(ask(KEY.opened(), key_without_bytes(5, 3), seal(b"", b"abc")), [[0], [-1], [-2]])

    def test_a_message_too_long(self):
        for size in SIZES:
            known = SampleKey(size)
            for length in (size - 65, size - 64, size - 34, size, size + 1, 1000, 10000):
                with self.subTest(size=size, length=length):
                    got = ask(known.opened(), seal(b"", LONG[:length]), seal(b"label", LONG[:length]))
                    self.assertEqual(got, [[0], [-1], [-1]])

    def test_a_message_too_long_for_a_made_key(self):
        self.assertEqual(ask(KEY.made(), seal(b"", bytes(63)), seal(b"label", bytes(29000))), [[0], [-1], [-1]])

    def test_the_most_bytes_of_a_label(self):
        # No list of calls has room for so many: only the one who holds the key can be asked.
        holder = Holder()
        self.assertEqual(holder.rs_key(128, 65537, row(KEY.modulus, 128)), [0])
        self.assertEqual(holder.rs_seal([0] * 16777217, [], [0] * 32), [-1])

    def test_the_key_is_as_it_was(self):
        for given in (KEY.made(), KEY.opened()):
            got = ask(given, numbers(), seal(b"", bytes(63)), numbers(), seal(b"", bytes(62)), numbers())
            self.assertEqual(got[2:4], [[-1], got[1]])
            self.assertEqual(got[5], got[1])


class Sealed(unittest.TestCase):
    def test_as_openssl_seals(self):
        for size in SIZES:
            with self.subTest(size=size):
                got = ask(SampleKey(size).opened(), seal(LABELS[size], SECRETS[size], SEEDS[size]))
                self.assertEqual(got, [[0], [size] + list(SEALED[size])])

    def test_messages_from_none_to_the_most_bytes(self):
        for size in SIZES:
            known = SampleKey(size)
            messages = [LONG[:length] for length in (0, 1, 2, 31, 32, size - 68, size - 67, size - 66)]
            with self.subTest(size=size):
                got = ask(known.opened(), *[seal(b"label", message, SEED) for message in messages])
                self.assertEqual(got[1:], [answered(known, b"label", message, SEED) for message in messages])

    def test_a_made_key_seals_as_the_open_one(self):
        for exponent in (3, 65537, 4294967295):
            with self.subTest(exponent=exponent):
                known = SampleKey(128, exponent)
                expected = [[0], answered(known, b"label", b"abc", SEED)]
                self.assertEqual(ask(known.made(), seal(b"label", b"abc", SEED)), expected)
                self.assertEqual(ask(known.opened(), seal(b"label", b"abc", SEED)), expected)

    def test_labels(self):
        for label in (b"", b"\0", b"label", LONG[:55], LONG[:56], LONG[:64], LONG[:3000], LONG):
            with self.subTest(length=len(label)):
                got = ask(KEY.opened(), seal(label, b"abc", SEED))
                self.assertEqual(got, [[0], answered(KEY, label, b"abc", SEED)])

    def test_messages_of_bytes_0_and_1(self):
        messages = [b"\0", b"\1", b"\0\1", b"\1\0", bytes(62), b"\1" * 62, b"\xff" * 62]
        got = ask(KEY.opened(), *[seal(b"", message, SEED) for message in messages])
        self.assertEqual(got[1:], [answered(KEY, b"", message, SEED) for message in messages])

    def test_each_byte_of_the_seed_tells(self):
        seeds = [bytes(place) + b"\1" + bytes(31 - place) for place in range(32)] + [bytes(32), b"\xff" * 32]
        got = ask(KEY.opened(), *[seal(b"label", b"abc", seed) for seed in seeds])
        self.assertEqual(got[1:], [answered(KEY, b"label", b"abc", seed) for seed in seeds])
        self.assertEqual(len({tuple(answer) for answer in got[1:]}), 34)

    def test_the_label_and_the_message_are_not_mixed_up(self):
        got = ask(KEY.opened(), seal(b"ab", b"c", SEED), seal(b"a", b"bc", SEED), seal(b"", b"abc", SEED))
        self.assertEqual(got[1:], [answered(KEY, b"ab", b"c", SEED), answered(KEY, b"a", b"bc", SEED),
                                   answered(KEY, b"", b"abc", SEED)])

    def test_sealed_with_a_byte_0_ahead(self):
        seed = next(
            seed for seed in (sha256(bytes([number, other])) for number in range(256) for other in range(16))
            if KEY.open_of(sealed(128, b"", b"abc", seed))[0] == 0)
        got = ask(KEY.opened(), seal(b"", b"abc", seed))
        self.assertEqual(got[1][:2], [128, 0])
        self.assertEqual(got[1], answered(KEY, b"", b"abc", seed))

    def test_any_odd_n_of_as_many_bits_seals(self):
        for modulus in (2 ** 1023 + 1, 2 ** 1024 - 1):
            form = int.from_bytes(sealed(128, b"", b"abc", SEED), "big")
            got = ask([1, 128, 5, 128] + row(modulus, 128), seal(b"", b"abc", SEED))
            self.assertEqual(got, [[0], [128] + row(pow(form, 5, modulus), 128)])

    def test_what_was_sealed_comes_out_again(self):
        for size in SIZES:
            known = SampleKey(size)
            with self.subTest(size=size):
                got = ask(known.opened(), seal(b"label", LONG[:size - 66], SEED), seal(b"", b"", SEED))
                again = ask(known.made(), unseal(b"label", got[1][1:]), unseal(b"", got[2][1:]))
                self.assertEqual(again, [[0], [size - 66] + list(LONG[:size - 66]), [0]])
