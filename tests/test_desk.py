"""The interface: greatkeys.desk.answers."""

import unittest

import greatkeys.desk
from tests.calls import ask, held, key, key_without_bytes, make, numbers, prime, prime_without_bytes, row
from tests.samples import KEY_PRIMES

FIRST, SECOND = KEY_PRIMES[128]
MODULUS = FIRST * SECOND


class Interface(unittest.TestCase):
    def test_the_empty_list(self):
        self.assertEqual(greatkeys.desk.answers([]), [])

    def test_each_answer_has_its_count_before_it(self):
        self.assertEqual(greatkeys.desk.answers([3]), [1, -2])
        self.assertEqual(greatkeys.desk.answers([1, 5, 3, 0]), [1, -1])
        self.assertEqual(greatkeys.desk.answers([2, 5, 3, 0, 0]), [1, -1])
        self.assertEqual(greatkeys.desk.answers([4, 5, 3, 0]), [1, -1])
        self.assertEqual(greatkeys.desk.answers([4, 128, 1, 128] + row(7, 128)), [1, 1])
        self.assertEqual(
            greatkeys.desk.answers([1, 128, 3, 128] + row(MODULUS, 128) + [3]),
            [1, 0, 257] + held(128, MODULUS, 0))

    def test_made_keys_in_full(self):
        calls = [2, 128, 65537, 64] + row(FIRST, 64) + [64] + row(SECOND, 64) + [3]
        given = greatkeys.desk.answers(calls)
        self.assertEqual(given[:132], [1, 0, 257, 128] + row(MODULUS, 128))
        self.assertEqual(len(given), 260)

    def test_the_answer_is_a_list_of_whole_numbers(self):
        given = greatkeys.desk.answers(make(128, 3, FIRST, SECOND) + numbers() + prime(128, 3, 7) + prime(128, 3, 8))
        self.assertIs(type(given), list)
        self.assertEqual({type(number) for number in given}, {int})

    def test_calls_in_any_order(self):
        got = ask(
            prime(256, 2, 2003), numbers(), make(128, 65537, FIRST, SECOND), prime_without_bytes(0, 1),
            key(256, 3, 2 ** 2048 - 1), numbers(), key_without_bytes(1, 3), numbers(), key(128, 5, MODULUS), numbers(),
        )
        self.assertEqual(got, [
            [1], [-2], [0], [-1], [0], held(256, 2 ** 2048 - 1, 0), [-1], [-2], [0], held(128, MODULUS, 0),
        ])

    def test_a_hundred_calls(self):
        self.assertEqual(ask(*[numbers()] * 100), [[-2]] * 100)
        calls = [key(128, 3, MODULUS), numbers(), prime(128, 1, 9), key_without_bytes(7, 7), numbers()] * 20
        expected = [[0], held(128, MODULUS, 0), [0], [-1], [-2]] * 20
        self.assertEqual(len(calls), 100)
        self.assertEqual(ask(*calls), expected)

    def test_a_long_list(self):
        calls = [prime(512, 1, 2 ** 4096 - 1)] * 57 + [numbers()] * 43
        self.assertLessEqual(sum(len(call) for call in calls), 30000)
        self.assertEqual(ask(*calls), [[0]] * 57 + [[-2]] * 43)

    def test_what_is_handed_in_is_not_changed(self):
        calls = (
            make(128, 3, FIRST, SECOND) + numbers() + key(128, 3, MODULUS) + prime(128, 3, MODULUS)
            + make(128, 3, FIRST, FIRST) + key_without_bytes(1, 2)
        )
        before = list(calls)
        greatkeys.desk.answers(calls)
        self.assertEqual(calls, before)

    def test_the_answer_is_a_list_of_its_own(self):
        calls = key(128, 3, MODULUS) + numbers()
        given = greatkeys.desk.answers(calls)
        again = greatkeys.desk.answers(calls)
        self.assertIsNot(given, again)
        given.clear()
        self.assertEqual(greatkeys.desk.answers(calls), again)

    def test_nothing_is_kept_from_one_time_to_the_next(self):
        self.assertEqual(ask(make(128, 3, FIRST, SECOND)), [[0]])
        self.assertEqual(ask(numbers()), [[-2]])
        self.assertEqual(ask(key(128, 3, MODULUS)), [[0]])
        self.assertEqual(ask(numbers()), [[-2]])
        calls = (numbers(), prime(128, 3, 7), make(128, 3, FIRST, SECOND), numbers())
        self.assertEqual(ask(*calls), ask(*calls))

    def test_no_other_call_number_is_answered(self):
        for call in (0, -1, 9):
            with self.subTest(call=call):
                self.assertRaises(Exception, greatkeys.desk.answers, [call])
