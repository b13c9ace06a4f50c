"""Point 5, rs_unseal."""

import unittest

from greatkeys.holder import Holder
from tests.calls import SIZES, ask, changed, key_without_bytes, numbers, row, seal, unseal
from tests.model import SampleKey, sealed, sealed_of, sha256
from tests.openssl_samples import LABELS, SEALED, SECRETS
from tests.samples import KEY_PRIMES, LONG, PASSES_TWENTY

KEY = SampleKey(128)
SEED = bytes(range(200, 232))
FORM = sealed(128, b"label", b"abc", SEED)
RIGHT = KEY.open_of(FORM)


def answered(message):
    """What rs_unseal answers of such a message."""
    return [len(message)] + list(message)


class Refusals(unittest.TestCase):
    def test_no_key(self):
        self.assertEqual(ask(unseal(b"label", RIGHT), unseal(b"", bytes(512)), unseal(LONG[:20000], b"")), [[-2]] * 3)

    def test_no_key_after_one_that_was_refused(self):
        self.assertEqual(ask(KEY.made(), key_without_bytes(5, 3), unseal(b"label", RIGHT)), [[0], [-1], [-2]])

    def test_an_open_key(self):
        for size in SIZES:
            known = SampleKey(size)
            with self.subTest(size=size):
                got = ask(known.opened(), unseal(LABELS[size], SEALED[size]), unseal(b"", bytes(512)))
                self.assertEqual(got, [[0], [-4], [-4]])

    def test_an_open_key_is_told_ahead_of_what_is_not_sealed(self):
        too_great = row(KEY.modulus, 128)
        self.assertEqual(ask(KEY.opened(), unseal(b"label", too_great), unseal(b"other", RIGHT)), [[0], [-4], [-4]])

    def test_the_most_bytes_of_a_label(self):
        # No list of calls has room for so many: only the one who holds the key can be asked.
        holder = Holder()
        self.assertEqual(holder.rs_key(128, 65537, row(KEY.modulus, 128)), [0])
        label = [0] * 16777216
        self.assertEqual(holder.rs_unseal(label, list(RIGHT)), [-4])
        label.append(0)
        self.assertEqual(holder.rs_unseal(label, list(RIGHT)), [-1])

    def test_the_key_is_as_it_was(self):
        got = ask(KEY.made(), numbers(), unseal(b"other", RIGHT), numbers(), unseal(b"label", RIGHT), numbers())
        self.assertEqual(got[2:], [[-5], got[1], answered(b"abc"), got[1]])
        got = ask(KEY.opened(), numbers(), unseal(b"label", RIGHT), numbers())
        self.assertEqual(got[2:], [[-4], got[1]])


class Messages(unittest.TestCase):
    def test_what_openssl_sealed(self):
        for size in SIZES:
            with self.subTest(size=size):
                got = ask(SampleKey(size).made(), unseal(LABELS[size], SEALED[size]))
                self.assertEqual(got, [[0], answered(SECRETS[size])])

    def test_messages_from_none_to_the_most_bytes(self):
        for size in (128, 256):
            known = SampleKey(size)
            messages = [LONG[:length] for length in (0, 1, 2, 31, 32, size - 68, size - 67, size - 66)]
            calls = [unseal(b"", known.open_of(sealed(size, b"", message, SEED))) for message in messages]
            with self.subTest(size=size):
                self.assertEqual(ask(known.made(), *calls), [[0]] + [answered(message) for message in messages])

    def test_the_empty_message(self):
        self.assertEqual(ask(KEY.made(), unseal(b"", KEY.open_of(sealed(128, b"", b"", SEED)))), [[0], [0]])

    def test_messages_of_bytes_0_and_1(self):
        messages = [b"\0", b"\1", b"\0\1", b"\1\0", bytes(61), bytes(62), b"\1" * 62, b"\0\0\1\2", b"\xff" * 62]
        calls = [unseal(b"", KEY.open_of(sealed(128, b"", message, SEED))) for message in messages]
        self.assertEqual(ask(KEY.made(), *calls), [[0]] + [answered(message) for message in messages])

    def test_labels(self):
        for label in (b"", b"\0", b"label", LONG[:55], LONG[:64], LONG[:3000], LONG):
            with self.subTest(length=len(label)):
                got = ask(KEY.made(), unseal(label, KEY.open_of(sealed(128, label, b"abc", SEED))))
                self.assertEqual(got, [[0], answered(b"abc")])

    def test_any_seed(self):
        seeds = [bytes(32), b"\xff" * 32, b"\1" * 32, SEED] + [sha256(bytes([number])) for number in range(20)]
        calls = [unseal(b"label", KEY.open_of(sealed(128, b"label", b"abc", seed))) for seed in seeds]
        self.assertEqual(ask(KEY.made(), *calls), [[0]] + [answered(b"abc")] * len(seeds))

    def test_other_exponents(self):
        for exponent in (3, 4294967295):
            with self.subTest(exponent=exponent):
                known = SampleKey(128, exponent)
                self.assertEqual(ask(known.made(), unseal(b"label", known.open_of(FORM))), [[0], answered(b"abc")])

    def test_sealed_and_unsealed_in_one_list(self):
        right = ask(KEY.made(), seal(b"label", b"abc", SEED))[1][1:]
        got = ask(KEY.made(), seal(b"label", b"abc", SEED), unseal(b"label", right), unseal(b"label", RIGHT))
        self.assertEqual(got[2:], [answered(b"abc")] * 2)

    def test_only_the_first_bytes_count(self):
        for size in SIZES:
            known = SampleKey(size)
            right = known.open_of(sealed(size, b"label", b"abc", SEED))
            with self.subTest(size=size):
                got = ask(known.made(), *[unseal(b"label", right, filler) for filler in (0, 1, 255)])
                self.assertEqual(got, [[0]] + [answered(b"abc")] * 3)


class NotSealed(unittest.TestCase):
    def assert_refused(self, *calls, known=KEY):
        self.assertEqual(ask(known.made(), *calls), [[0]] + [[-5]] * len(calls))

    def assert_no_form(self, form, label=b"label"):
        self.assertEqual(len(form), 128)
        self.assert_refused(unseal(label, KEY.open_of(form)))

    def test_not_below_n(self):
        for number in (KEY.modulus, KEY.modulus + 1, KEY.modulus + 2, 2 ** 1024 - 1):
            self.assert_refused(unseal(b"label", row(number, 128)))

    def test_a_right_one_with_n_added(self):
        right = next(
            right for right in (KEY.open_of(sealed(128, b"", b"abc", sha256(bytes([n])))) for n in range(100))
            if KEY.plus_modulus(right) is not None)
        got = ask(KEY.made(), unseal(b"", right), unseal(b"", KEY.plus_modulus(right)))
        self.assertEqual(got, [[0], answered(b"abc"), [-5]])

    def test_small_numbers(self):
        for number in (0, 1, 2, KEY.modulus - 1):
            self.assert_refused(unseal(b"label", row(number, 128)), unseal(b"", row(number, 128)))

    def test_another_label(self):
        for label in (b"", b"labe", b"labem", b"Label", b"label\0", b"\0label", LONG, sha256(b"label")):
            self.assert_refused(unseal(label, RIGHT))

    def test_a_byte_changed(self):
        for size in SIZES:
            known = SampleKey(size)
            right = known.open_of(sealed(size, b"label", b"abc", SEED))
            calls = [unseal(b"label", changed(right, place)) for place in (1, size // 2, size - 1)]
            with self.subTest(size=size):
                self.assert_refused(*calls, known=known)

    def test_each_byte_tells(self):
        calls = [unseal(b"label", changed(RIGHT, place)) for place in range(128)]
        for start in (0, 32, 64, 96):
            self.assert_refused(*calls[start:start + 32])

    def test_another_key(self):
        self.assert_refused(unseal(b"label", RIGHT), known=SampleKey(128, 3))
        self.assert_refused(unseal(b"label", RIGHT), known=SampleKey(128, 65537, (KEY_PRIMES[128][0], PASSES_TWENTY)))

    def test_a_key_of_another_size(self):
        self.assert_refused(unseal(b"label", RIGHT), known=SampleKey(256))
        self.assert_refused(unseal(LABELS[256], SEALED[256]))

    def test_what_stands_behind_a_byte_0(self):
        self.assert_refused(unseal(b"label", b"\0" + RIGHT))

    def test_the_first_byte(self):
        block = sha256(b"label") + bytes(59) + b"\1abc"
        self.assertEqual(sealed_of(block, SEED), FORM)
        for first in (1, 2, 64, 127):
            self.assert_no_form(sealed_of(block, SEED, bytes([first])))

    def test_the_labels_sum(self):
        for place in (0, 1, 16, 31):
            self.assert_no_form(sealed_of(changed(sha256(b"label"), place) + bytes(59) + b"\1abc", SEED))
        self.assert_no_form(sealed_of(bytes(91) + b"\1abc", SEED))
        self.assert_no_form(sealed_of(bytes(91) + b"\1abc", SEED), b"")

    def test_the_byte_behind_the_bytes_0(self):
        for byte in (2, 3, 128, 129, 254, 255):
            for zeros in (0, 1, 59, 62):
                rest = b"\1" * (62 - zeros)
                self.assert_no_form(sealed_of(sha256(b"label") + bytes(zeros) + bytes([byte]) + rest, SEED))

    def test_no_byte_behind_the_bytes_0(self):
        self.assert_no_form(sealed_of(sha256(b"label") + bytes(63), SEED))

    def test_a_byte_among_the_bytes_0(self):
        for place in (32, 33, 60, 90):
            block = sha256(b"label") + bytes(59) + b"\1abc"
            self.assertEqual(block[place], 0)
            self.assert_no_form(sealed_of(changed(block, place, 2), SEED))

    def test_without_masks(self):
        self.assert_no_form(b"\0" + SEED + sha256(b"label") + bytes(59) + b"\1abc")
