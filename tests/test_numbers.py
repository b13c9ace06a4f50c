"""Point 2, rs_numbers."""

import math
import unittest

from tests.calls import ask, held, key, make, numbers
from tests.samples import KEY_PRIMES

FIRST, SECOND = KEY_PRIMES[128]


class Numbers(unittest.TestCase):
    def test_no_key_before_the_first_call(self):
        self.assertEqual(ask(numbers()), [[-2]])
        self.assertEqual(ask(numbers(), numbers()), [[-2], [-2]])

    def test_a_key_is_not_there_ahead_of_its_call(self):
        modulus = FIRST * SECOND
        got = ask(numbers(), key(128, 3, modulus), numbers())
        self.assertEqual(got, [[-2], [0], held(128, modulus, 0)])

    def test_highest_byte_first(self):
        modulus = (200 << 1016) + (7 << 8) + 9
        known = ask(key(128, 3, modulus), numbers())[1]
        self.assertEqual(known, [128, 200] + [0] * 125 + [7, 9] + [0] * 128)

    def test_how_many_bytes(self):
        for size in (128, 256, 384, 512):
            with self.subTest(size=size):
                known = ask(key(size, 3, 2 ** (8 * size) - 1), numbers())[1]
                self.assertEqual(known, [size] + [255] * size + [0] * size)

    def test_a_small_d_has_bytes_0_ahead(self):
        # With this exponent d has 1006 bits only, so two bytes 0 stand ahead of it.
        secret = pow(361087, -1, math.lcm(FIRST - 1, SECOND - 1))
        self.assertEqual(secret.bit_length(), 1006)
        known = ask(make(128, 361087, FIRST, SECOND), numbers())[1]
        self.assertEqual(known[129:131], [0, 0])
        self.assertEqual(known, held(128, FIRST * SECOND, secret))

    def test_asking_changes_nothing(self):
        made, first_time, second_time = ask(make(128, 3, FIRST, SECOND), numbers(), numbers())
        self.assertEqual(made, [0])
        self.assertEqual(first_time, second_time)
        self.assertEqual(first_time[0], 128)
