"""Sums on great numbers modulo a number."""

# How many bits of an exponent are taken at once: with numbers of a key's size,
# five spare more multiplications than their table of powers costs.
WINDOW = 5
WINDOW_MASK = 31


def low_powers(base, modulus):
    """The powers of base, modulo modulus, that one window of bits can ask for."""
    powers = [1]
    while len(powers) <= WINDOW_MASK:
        powers.append(powers[-1] * base % modulus)
    return powers


def power(base, exponent, modulus):
    """base to the exponent, modulo a modulus above 1."""
    powers = low_powers(base, modulus)
    result = 1
    highest = exponent.bit_length() // WINDOW * WINDOW
    for place in range(highest, -1, -WINDOW):
        for squaring in range(WINDOW):
            result = result * result % modulus
        result = result * powers[(exponent >> place) & WINDOW_MASK] % modulus
    return result


def common_divisor(first, second):
    """The greatest number that divides both."""
    while second != 0:
        rest = first % second
        first = second
        second = rest
    return first


def common_multiple(first, second):
    """The least number that both divide; both are above 0."""
    return first // common_divisor(first, second) * second


def inverse(number, modulus):
    """The inverse of number modulo modulus, from 0 to below it; None if there's none."""
    greater = modulus
    lesser = number % modulus
    # Each of the two stays its factor times number, modulo modulus.
    greater_factor = 0
    lesser_factor = 1
    while lesser != 0:
        quotient = greater // lesser
        rest = greater - quotient * lesser
        rest_factor = greater_factor - quotient * lesser_factor
        greater = lesser
        greater_factor = lesser_factor
        lesser = rest
        lesser_factor = rest_factor
    if greater != 1:
        return None
    return greater_factor % modulus
