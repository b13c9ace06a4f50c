"""The desk: a list of calls comes in, a list of answers goes out."""

from greatkeys.holder import Holder
from greatkeys.reader import Reader

RS_KEY = 1
RS_MAKE = 2
RS_NUMBERS = 3
RS_PRIME = 4
RS_SIGN = 5
RS_CHECK = 6
RS_SEAL = 7
RS_UNSEAL = 8


class UnknownCall(ValueError):
    """There's no call of this number."""


def answer_key(holder, reader):
    size = reader.take_number()
    exponent = reader.take_number()
    return holder.rs_key(size, exponent, reader.take_row())


def answer_make(holder, reader):
    size = reader.take_number()
    exponent = reader.take_number()
    first_row = reader.take_row()
    return holder.rs_make(size, exponent, first_row, reader.take_row())


def answer_prime(holder, reader):
    size = reader.take_number()
    rounds = reader.take_number()
    return holder.rs_prime(size, rounds, reader.take_row())


def answer_sign(holder, reader):
    kind = reader.take_number()
    message = reader.take_row()
    return holder.rs_sign(kind, message, reader.take_row())


def answer_check(holder, reader):
    kind = reader.take_number()
    message = reader.take_row()
    return holder.rs_check(kind, message, reader.take_row())


def answer_seal(holder, reader):
    label = reader.take_row()
    message = reader.take_row()
    return holder.rs_seal(label, message, reader.take_row())


def answer_unseal(holder, reader):
    label = reader.take_row()
    return holder.rs_unseal(label, reader.take_row())


def answer_call(holder, reader):
    """Reads one call, carries it out, and gives back what it answers."""
    call = reader.take_number()
    if call == RS_KEY:
        return answer_key(holder, reader)
    if call == RS_MAKE:
        return answer_make(holder, reader)
    if call == RS_NUMBERS:
        return holder.rs_numbers()
    if call == RS_PRIME:
        return answer_prime(holder, reader)
    if call == RS_SIGN:
        return answer_sign(holder, reader)
    if call == RS_CHECK:
        return answer_check(holder, reader)
    if call == RS_SEAL:
        return answer_seal(holder, reader)
    if call == RS_UNSEAL:
        return answer_unseal(holder, reader)
    raise UnknownCall(f"there is no call {call}")


def answers(calls):
    """The answers to the calls, each with how many numbers it has before it."""
    holder = Holder()
    reader = Reader(calls)
    given = []
    while not reader.at_end():
        answer = answer_call(holder, reader)
        given.append(len(answer))
        given.extend(answer)
    return given
