"""Writes calls as the desk takes them, and reads what it answers."""

from greatkeys.desk import answers

SIZES = (128, 256, 384, 512)
NO_SIZES = (-2147483648, -128, -1, 0, 1, 64, 127, 129, 255, 257, 383, 385, 511, 513, 640, 1024, 2147483647)
NO_KINDS = (-2147483648, -256, -2, -1, 2, 3, 128, 255, 256, 257, 65536, 2147483647)


def row(number, size):
    return list(number.to_bytes(size, "big"))


def counted(numbers):
    return [len(numbers)] + numbers


def key(size, exponent, modulus):
    return [1, size, exponent] + counted(row(modulus, size))


def key_without_bytes(size, exponent):
    return [1, size, exponent, 0]


def make(size, exponent, first, second):
    return [2, size, exponent] + counted(row(first, size // 2)) + counted(row(second, size // 2))


def make_without_bytes(size, exponent):
    return [2, size, exponent, 0, 0]


def numbers():
    return [3]


def prime(size, rounds, number):
    return [4, size, rounds] + counted(row(number, size))


def prime_without_bytes(size, rounds):
    return [4, size, rounds, 0]


def sign(kind, message, salt=bytes(32)):
    return [5, kind] + counted(list(message)) + counted(list(salt))


def check(kind, message, signature, filler=0):
    return [6, kind] + counted(list(message)) + counted(filled(signature, filler))


def seal(label, message, seed=bytes(32)):
    return [7] + counted(list(label)) + counted(list(message)) + counted(list(seed))


def unseal(label, sealed, filler=0):
    return [8] + counted(list(label)) + counted(filled(sealed, filler))


def filled(numbers, filler):
    """The numbers, and as many fillers behind them as make 512 numbers."""
    return list(numbers) + [filler] * (512 - len(numbers))


def changed(row_of_bytes, place, bits=1):
    """The bytes with some bits of one of them turned."""
    return row_of_bytes[:place] + bytes([row_of_bytes[place] ^ bits]) + row_of_bytes[place + 1:]


def ask(*calls):
    """Hands the calls in as one list; gives back one list of numbers for each answer."""
    given = answers([number for call in calls for number in call])
    split = []
    place = 0
    while place < len(given):
        assert given[place] >= 1, "an answer without numbers"
        end = place + 1 + given[place]
        split.append(given[place + 1:end])
        place = end
    assert place == len(given), "the last answer is shorter than its count"
    assert len(split) == len(calls), "not one answer for each call"
    return split


def held(size, modulus, secret):
    """What rs_numbers answers of such a key."""
    return [size] + row(modulus, size) + row(secret, size)
