"""Numbers as rows of bytes, the highest byte first."""


def number_of(row):
    """The number that a row of bytes stands for; the empty row stands for 0."""
    number = 0
    for byte in row:
        number = (number << 8) | byte
    return number


def row_of(number, size):
    """The number as a row of size bytes."""
    return [(number >> 8 * place) & 255 for place in range(size - 1, -1, -1)]


def exclusive_or(first, second):
    """The exclusive or of two rows of the same length, byte by byte."""
    return [one ^ other for one, other in zip(first, second)]
