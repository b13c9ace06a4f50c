"""All eight calls in one list, and what the interface says over them."""

import contextlib
import io
import unittest

import greatkeys.desk
from tests.calls import (
    ask, check, key_without_bytes, make_without_bytes, numbers, prime, prime_without_bytes, row, seal, sign, unseal,
)
from tests.model import SampleKey, plain, salted, sealed
from tests.samples import LONG
from tests.script import Script

KEY = SampleKey(128)
SALT = bytes(range(32))
PLAIN = KEY.secret_of(plain(128, b"abc"))
SALTED = KEY.secret_of(salted(128, b"abc", SALT))
SEALED = KEY.open_of(sealed(128, b"label", b"abc", SALT))
ALL_EIGHT = (
    KEY.opened(), KEY.made(), numbers(), prime(128, 3, KEY.modulus), sign(1, b"abc", SALT), check(0, b"abc", PLAIN),
    seal(b"label", b"abc", SALT), unseal(b"label", SEALED),
)


class NeverChanged(list):
    """A list that lets nobody change it."""

    def refuse(self, *given, **named):
        raise AssertionError("what was handed in is being changed")

    append = extend = insert = pop = remove = clear = sort = reverse = refuse
    __setitem__ = __delitem__ = __iadd__ = __imul__ = refuse


class AllEight(unittest.TestCase):
    def test_in_full(self):
        secret = row(KEY.secret, 128)
        expected = [1, 0, 1, 0, 257, 128] + row(KEY.modulus, 128) + secret + [1, 0]
        expected += [129, 128] + list(SALTED) + [1, 1] + [129, 128] + list(SEALED) + [4, 3] + list(b"abc")
        self.assertEqual(greatkeys.desk.answers([number for call in ALL_EIGHT for number in call]), expected)

    def test_written_out(self):
        given = greatkeys.desk.answers(
            [5, 0, 1, 9, 32] + [0] * 32 + [6, 0, 2, 9, 9, 512] + [0] * 512 + [7, 0, 0, 32] + [0] * 32
            + [8, 3, 1, 2, 3, 512] + [0] * 512)
        self.assertEqual(given, [1, -2, 1, -2, 1, -2, 1, -2])

    def test_the_empty_message_is_answered_as_one_number(self):
        empty = KEY.open_of(sealed(128, b"", b"", SALT))
        calls = KEY.made() + unseal(b"", empty) + numbers()
        self.assertEqual(greatkeys.desk.answers(calls)[:5], [1, 0, 1, 0, 257])

    def test_a_hundred_calls_in_any_order(self):
        for seed in range(6):
            with self.subTest(seed=seed):
                steps = Script(seed).steps(100)
                self.assertLessEqual(sum(len(call) for call, answer in steps), 30000)
                self.assertEqual({call[0] for call, answer in steps}, {1, 2, 3, 4, 5, 6, 7, 8})
                got = ask(*[call for call, answer in steps])
                for place, (call, answer) in enumerate(steps):
                    self.assertEqual(got[place], answer, f"call {place}, number {call[0]}")

    def test_whole_numbers_are_answered(self):
        given = greatkeys.desk.answers([number for call in ALL_EIGHT for number in call])
        self.assertIs(type(given), list)
        self.assertEqual({type(number) for number in given}, {int})


class WhatStays(unittest.TestCase):
    def test_refusals_leave_a_made_key(self):
        refused = (
            (prime_without_bytes(5, 3), [-1]), (prime(128, 41, 7), [-1]), (sign(2, b"abc"), [-1]),
            (check(-1, b"abc", PLAIN), [-1]), (check(1, b"abc", PLAIN), [0]), (seal(b"", bytes(63)), [-1]),
            (unseal(b"", SEALED), [-5]), (unseal(b"label", row(KEY.modulus, 128)), [-5]),
        )
        for call, answer in refused:
            got = ask(KEY.made(), numbers(), call, numbers(), sign(0, b"abc"), unseal(b"label", SEALED))
            self.assertEqual(got[2:], [answer, got[1], [128] + list(PLAIN), [3] + list(b"abc")])

    def test_refusals_leave_an_open_key(self):
        refused = (
            (prime_without_bytes(5, 3), [-1]), (sign(0, b"abc"), [-4]), (sign(5, b"abc"), [-1]),
            (check(7, b"abc", PLAIN), [-1]), (seal(b"", bytes(63)), [-1]), (unseal(b"label", SEALED), [-4]),
        )
        for call, answer in refused:
            got = ask(KEY.opened(), numbers(), call, numbers(), check(0, b"abc", PLAIN), sign(0, b"abc"))
            self.assertEqual(got[2:], [answer, got[1], [1], [-4]])

    def test_refusals_without_a_key_bring_none(self):
        calls = [sign(0, b"abc"), check(0, b"abc", PLAIN), seal(b"", b"abc"), unseal(b"label", SEALED), numbers()]
        self.assertEqual(ask(*calls, *calls), [[-2]] * 10)
        for refused in (key_without_bytes(1, 3), make_without_bytes(1, 3)):
            self.assertEqual(ask(KEY.made(), refused, *calls), [[0], [-1]] + [[-2]] * 5)

    def test_what_is_handed_in_is_not_changed(self):
        calls = [number for call in ALL_EIGHT for number in call]
        before = list(calls)
        expected = greatkeys.desk.answers(calls)
        self.assertEqual(calls, before)
        self.assertEqual(greatkeys.desk.answers(NeverChanged(calls)), expected)

    def test_lists_do_not_know_of_one_another(self):
        keyless = [sign(0, b"abc"), check(0, b"abc", PLAIN), seal(b"", b"abc"), unseal(b"label", SEALED), numbers()]
        for given in (KEY.made(), KEY.opened()):
            self.assertEqual(ask(given), [[0]])
            self.assertEqual(ask(*keyless), [[-2]] * 5)
        self.assertEqual(ask(*ALL_EIGHT), ask(*ALL_EIGHT))

    def test_a_broken_off_list_leaves_nothing(self):
        self.assertRaises(Exception, greatkeys.desk.answers, KEY.made() + [9])
        self.assertEqual(ask(numbers()), [[-2]])

    def test_nothing_is_printed(self):
        printed = io.StringIO()
        with contextlib.redirect_stdout(printed), contextlib.redirect_stderr(printed):
            ask(*ALL_EIGHT)
        self.assertEqual(printed.getvalue(), "")


class LongLists(unittest.TestCase):
    def test_a_list_of_30000_numbers(self):
        ahead = [KEY.made(), sign(0, b"abc"), check(0, b"abc", PLAIN), unseal(b"label", SEALED)]
        room = 30000 - sum(len(call) for call in ahead)
        message = LONG[:room - len(sign(1, b"", SALT))]
        label = LONG[:room - len(seal(b"", b"abc", SALT))]
        cases = (
            (sign(1, message, SALT), KEY.secret_of(salted(128, message, SALT))),
            (seal(label, b"abc", SALT), KEY.open_of(sealed(128, label, b"abc", SALT))),
        )
        for last, expected in cases:
            with self.subTest(call=last[0]):
                self.assertEqual(sum(len(call) for call in ahead + [last]), 30000)
                got = ask(*ahead, last)
                self.assertEqual(got, [[0], [128] + list(PLAIN), [1], [3] + list(b"abc"), [128] + list(expected)])

    def test_many_calls_with_512_bytes(self):
        calls = [KEY.made()] + [check(1, b"abc", SALTED, 7), unseal(b"label", SEALED, 7)] * 28
        self.assertLessEqual(sum(len(call) for call in calls), 30000)
        self.assertEqual(ask(*calls), [[0]] + [[1], [3] + list(b"abc")] * 28)

    def test_a_hundred_signatures(self):
        got = ask(KEY.made(), *[sign(0, b"abc")] * 99)
        self.assertEqual(got, [[0]] + [[128] + list(PLAIN)] * 99)
