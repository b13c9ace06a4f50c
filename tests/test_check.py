"""Point 4, rs_check."""

import unittest

from greatkeys.holder import Holder
from tests.calls import NO_KINDS, SIZES, ask, changed, check, key_without_bytes, numbers, row, sign
from tests.model import SampleKey, masked, plain, salted, salted_of, salted_sum, sha256
from tests.openssl_samples import MESSAGES, PLAIN_SIGNATURES, SALTED_SIGNATURES
from tests.samples import KEY_PRIMES, LONG, PASSES_TWENTY

KEY = SampleKey(128)
OTHER_KEY = SampleKey(128, 3)
SALT = bytes(range(100, 132))
PLAIN = KEY.secret_of(plain(128, b"abc"))
SALTED = KEY.secret_of(salted(128, b"abc", SALT))


class Refusals(unittest.TestCase):
    def test_no_key(self):
        for kind in (0, 1) + NO_KINDS:
            with self.subTest(kind=kind):
                self.assertEqual(ask(check(kind, b"abc", PLAIN)), [[-2]])

    def test_no_key_after_one_that_was_refused(self):
        self.assertEqual(ask(KEY.opened(), key_without_bytes(5, 3), check(0, b"abc", PLAIN)), [[0], [-1], [-2]])

    def test_no_such_kind(self):
        for given in (KEY.made(), KEY.opened()):
            calls = [check(kind, b"abc", signature) for kind in NO_KINDS for signature in (PLAIN, SALTED)]
            self.assertEqual(ask(given, *calls), [[0]] + [[-1]] * len(calls))

    def test_the_most_bytes_of_a_message(self):
        # No list of calls has room for so many: only the one who holds the key can be asked.
        holder = Holder()
        self.assertEqual(holder.rs_key(128, 65537, row(KEY.modulus, 128)), [0])
        message = [0] * 16777217
        self.assertEqual(holder.rs_check(0, message, [0] * 512), [-1])
        self.assertEqual(holder.rs_check(1, message, [0] * 512), [-1])
        # A signature that isn't below n is looked at ahead of the message, which spares its sum.
        self.assertEqual(holder.rs_check(0, message[1:], [255] * 512), [0])

    def test_the_key_is_as_it_was(self):
        for given in (KEY.made(), KEY.opened()):
            got = ask(given, numbers(), check(2, b"abc", PLAIN), check(0, b"abd", PLAIN), numbers(),
                      check(0, b"abc", PLAIN))
            self.assertEqual(got[2:], [[-1], [0], got[1], [1]])


class RightSignatures(unittest.TestCase):
    def test_what_openssl_signed(self):
        for size in SIZES:
            with self.subTest(size=size):
                got = ask(SampleKey(size).opened(), check(0, MESSAGES[size], PLAIN_SIGNATURES[size]),
                          check(1, MESSAGES[size], SALTED_SIGNATURES[size]))
                self.assertEqual(got, [[0], [1], [1]])

    def test_what_was_signed_here(self):
        for size in (128, 256):
            for message in (b"", b"abc", LONG[:3000]):
                with self.subTest(size=size, length=len(message)):
                    known = SampleKey(size)
                    got = ask(known.made(), sign(0, message), sign(1, message, SALT))
                    checks = [check(kind, message, got[1 + kind][1:]) for kind in (0, 1)]
                    self.assertEqual(ask(known.made(), *checks), [[0], [1], [1]])
                    self.assertEqual(ask(known.opened(), *checks), [[0], [1], [1]])

    def test_any_salt(self):
        salts = [bytes(32), b"\xff" * 32, b"\1" * 32, bytes(31) + b"\1", b"\1" + bytes(31), SALT]
        salts += [sha256(bytes([number])) for number in range(20)]
        calls = [check(1, b"abc", KEY.secret_of(salted(128, b"abc", salt))) for salt in salts]
        self.assertEqual(ask(KEY.opened(), *calls), [[0]] + [[1]] * len(salts))

    def test_a_long_message(self):
        got = ask(KEY.opened(), check(0, LONG, KEY.secret_of(plain(128, LONG))))
        self.assertEqual(got, [[0], [1]])
        got = ask(KEY.opened(), check(1, LONG, KEY.secret_of(salted(128, LONG, SALT))))
        self.assertEqual(got, [[0], [1]])

    def test_other_exponents(self):
        for exponent in (3, 4294967295):
            with self.subTest(exponent=exponent):
                known = SampleKey(128, exponent)
                got = ask(known.opened(), check(0, b"abc", known.secret_of(plain(128, b"abc"))),
                          check(1, b"abc", known.secret_of(salted(128, b"abc", SALT))))
                self.assertEqual(got, [[0], [1], [1]])

    def test_a_signature_with_a_byte_0_ahead(self):
        signature = KEY.secret_of(plain(128, b"275"))
        self.assertEqual(signature[0], 0)
        self.assertEqual(ask(KEY.opened(), check(0, b"275", signature)), [[0], [1]])
        self.assertEqual(ask(KEY.opened(), check(0, b"275", signature[1:])), [[0], [0]])

    def test_only_the_first_bytes_count(self):
        for size in SIZES:
            known = SampleKey(size)
            signatures = [known.secret_of(plain(size, b"abc")), known.secret_of(salted(size, b"abc", SALT))]
            calls = [check(kind, b"abc", signatures[kind], filler) for kind in (0, 1) for filler in (0, 1, 255)]
            with self.subTest(size=size):
                self.assertEqual(ask(known.opened(), *calls), [[0]] + [[1]] * 6)

    def test_each_of_the_first_bytes_counts(self):
        for size in (128, 256):
            known = SampleKey(size, 3)
            signature = known.secret_of(plain(size, b"abc"))
            calls = [check(0, b"abc", changed(signature, place)) for place in range(0, size, 1 + size // 128)]
            calls.append(check(0, b"abc", changed(signature, size - 1)))
            with self.subTest(size=size):
                self.assertEqual({tuple(answer) for answer in ask(known.opened(), *calls[:50])[1:]}, {(0,)})
                self.assertEqual({tuple(answer) for answer in ask(known.opened(), *calls[-50:])[1:]}, {(0,)})


class WrongSignatures(unittest.TestCase):
    def assert_wrong(self, *calls, known=KEY):
        self.assertEqual(ask(known.opened(), *calls), [[0]] + [[0]] * len(calls))

    def test_the_signature_changed(self):
        for place in (0, 1, 64, 126, 127):
            for bits in (1, 128, 255):
                self.assert_wrong(check(0, b"abc", changed(PLAIN, place, bits)),
                                  check(1, b"abc", changed(SALTED, place, bits)))

    def test_the_message_changed(self):
        for message in (b"", b"ab", b"abd", b"Abc", b"abcd", b"abc\0", b"\0abc", sha256(b"abc")):
            self.assert_wrong(check(0, message, PLAIN), check(1, message, SALTED))

    def test_the_other_kind(self):
        self.assert_wrong(check(1, b"abc", PLAIN), check(0, b"abc", SALTED))

    def test_another_key(self):
        other = SampleKey(128, 65537, (KEY_PRIMES[128][0], PASSES_TWENTY))
        self.assert_wrong(check(0, b"abc", PLAIN), check(1, b"abc", SALTED), known=OTHER_KEY)
        self.assert_wrong(check(0, b"abc", PLAIN), check(1, b"abc", SALTED), known=other)

    def test_a_key_of_another_size(self):
        self.assert_wrong(check(0, b"abc", PLAIN), check(1, b"abc", SALTED), known=SampleKey(256))
        self.assert_wrong(check(0, MESSAGES[256], PLAIN_SIGNATURES[256]))

    def test_a_signature_that_stands_behind_bytes_0(self):
        self.assert_wrong(check(0, b"abc", bytes(384) + PLAIN), check(0, b"abc", bytes(1) + PLAIN))

    def test_small_and_great_numbers(self):
        for number in (0, 1, 2, KEY.modulus - 1, KEY.modulus, KEY.modulus + 1, 2 ** 1024 - 1):
            signature = number.to_bytes(128, "big")
            self.assert_wrong(check(0, b"abc", signature), check(1, b"abc", signature))

    def test_a_right_one_with_n_added(self):
        for kind in (0, 1):
            message, signature = next(
                (message, signature) for message, signature in self.right_ones(kind)
                if KEY.plus_modulus(signature) is not None)
            got = ask(KEY.opened(), check(kind, message, signature), check(kind, message, KEY.plus_modulus(signature)))
            self.assertEqual(got, [[0], [1], [0]])

    def right_ones(self, kind):
        for number in range(100):
            message = bytes([number])
            yield message, KEY.secret_of(salted(128, message, SALT) if kind == 1 else plain(128, message))

    def test_n_less_a_right_one(self):
        # The open of it is n less the form, which is another form.
        for kind, signature in ((0, PLAIN), (1, SALTED)):
            number = KEY.modulus - int.from_bytes(signature, "big")
            self.assert_wrong(check(kind, b"abc", number.to_bytes(128, "big")))


class NearlyPlain(unittest.TestCase):
    def assert_wrong(self, form, size=128):
        known = SampleKey(size)
        self.assertEqual(len(form), size)
        self.assertEqual(ask(known.opened(), check(0, b"abc", known.secret_of(form))), [[0], [0]])

    def test_each_byte_tells(self):
        known = SampleKey(128)
        form = plain(128, b"abc")
        calls = [check(0, b"abc", known.secret_of(changed(form, place))) for place in range(128)]
        self.assertEqual(ask(known.opened(), *calls[:64]), [[0]] + [[0]] * 64)
        self.assertEqual(ask(known.opened(), *calls[64:]), [[0]] + [[0]] * 64)

    def test_one_of_the_bytes_255(self):
        for size in SIZES:
            form = plain(size, b"abc")
            for place in (2, 3, size // 2 - 26, size - 54, size - 53):
                self.assertEqual(form[place], 255)
                self.assert_wrong(changed(form, place), size)
                self.assert_wrong(changed(form, place, 255), size)

    def test_bytes_behind_the_sum(self):
        # Fewer bytes 255, and what they leave stands at the end.
        end = plain(128, b"abc")[76:]
        for fewer in (1, 8, 66, 74):
            self.assert_wrong(b"\0\1" + b"\xff" * (74 - fewer) + end + bytes(fewer))
            self.assert_wrong(b"\0\1" + b"\xff" * (74 - fewer) + end + b"\xff" * fewer)

    def test_the_sign_written_in_other_ways(self):
        # Without the two bytes that say nothing, and with a length in two bytes.
        summed = sha256(b"abc")
        for sign_of_sum in ("302f300b0609608648016503040201" "0420", "308131300d060960864801650304020105000420",
                            "3031300d060960864801650304020205000420", "3021300906052b0e03021a05000414", ""):
            end = b"\0" + bytes.fromhex(sign_of_sum) + summed
            self.assert_wrong(b"\0\1" + b"\xff" * (126 - len(end)) + end)

    def test_the_other_block_kind(self):
        form = plain(128, b"abc")
        self.assert_wrong(b"\0\2" + form[2:])
        self.assert_wrong(b"\0\0" + form[2:])
        self.assert_wrong(b"\1\1" + form[2:])

    def test_the_message_itself_for_its_sum(self):
        form = plain(128, b"abc")
        self.assert_wrong(form[:96] + b"abc".rjust(32, b"\0"))
        self.assert_wrong(form[:96] + sha256(sha256(b"abc")))


class NearlySalted(unittest.TestCase):
    SUMMED = salted_sum(b"abc", SALT)
    FRONT = bytes(62) + b"\1" + SALT

    def assert_wrong(self, form, size=128):
        known = SampleKey(size)
        self.assertEqual(len(form), size)
        self.assertEqual(ask(known.opened(), check(1, b"abc", known.secret_of(form))), [[0], [0]])

    def test_these_parts_make_a_right_one(self):
        self.assertEqual(salted_of(self.FRONT, self.SUMMED), salted(128, b"abc", SALT))
        signature = KEY.secret_of(salted_of(self.FRONT, self.SUMMED))
        self.assertEqual(ask(KEY.opened(), check(1, b"abc", signature)), [[0], [1]])

    def test_each_byte_tells(self):
        form = salted(128, b"abc", SALT)
        calls = [check(1, b"abc", KEY.secret_of(changed(form, place))) for place in range(128)]
        self.assertEqual(ask(KEY.opened(), *calls[:64]), [[0]] + [[0]] * 64)
        self.assertEqual(ask(KEY.opened(), *calls[64:]), [[0]] + [[0]] * 64)

    def test_the_highest_bit(self):
        # Each once where the mask has that bit and where it has not, and still below n.
        seen = set()
        for number in range(60):
            salt = bytes([number]) * 32
            form = changed(salted(128, b"abc", salt), 0, 128)
            if int.from_bytes(form, "big") < KEY.modulus:
                seen.add(masked(b"\0", salted_sum(b"abc", salt))[0] >= 128)
                self.assert_wrong(form)
        self.assertEqual(seen, {True, False})

    def test_the_last_byte(self):
        form = salted(128, b"abc", SALT)
        for last in (0x00, 0x01, 0x3c, 0xbb, 0xbd, 0xcc, 0xff):
            self.assert_wrong(form[:-1] + bytes([last]))

    def test_one_of_the_bytes_0(self):
        for size in SIZES:
            front = bytes(size - 66) + b"\1" + SALT
            for place in (0, 1, 2, size // 2 - 33, size - 68, size - 67):
                self.assert_wrong(salted_of(changed(front, place), self.SUMMED), size)
            self.assert_wrong(salted_of(changed(front, 0, 64), self.SUMMED), size)

    def test_the_byte_1_ahead_of_the_salt(self):
        for byte in (0, 2, 3, 129, 255):
            self.assert_wrong(salted_of(bytes(62) + bytes([byte]) + SALT, self.SUMMED))

    def test_a_1_further_ahead(self):
        self.assert_wrong(salted_of(bytes(61) + b"\1\1" + SALT, self.SUMMED))
        self.assert_wrong(salted_of(bytes(61) + b"\1\0" + SALT, self.SUMMED))

    def test_a_salt_of_another_length(self):
        for length in (0, 1, 20, 31, 33, 48, 62, 94):
            salt = (SALT * 3)[:length]
            self.assert_wrong(salted(128, b"abc", salt))

    def test_another_salt_than_in_the_sum(self):
        self.assert_wrong(salted_of(bytes(62) + b"\1" + changed(SALT, 0), self.SUMMED))
        self.assert_wrong(salted_of(bytes(62) + b"\1" + changed(SALT, 31), self.SUMMED))

    def test_other_sums(self):
        for summed in (sha256(bytes(7) + sha256(b"abc") + SALT), sha256(sha256(b"abc") + SALT),
                       sha256(bytes(8) + b"abc" + SALT), sha256(bytes(8) + SALT + sha256(b"abc")), sha256(b"abc")):
            self.assert_wrong(salted_of(self.FRONT, summed))

    def test_without_a_mask(self):
        self.assert_wrong(self.FRONT + self.SUMMED + b"\xbc")
