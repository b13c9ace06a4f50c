"""Sums of messages (SHA-256), and the masks that are made of them."""

from greatkeys.bytewise import number_of, row_of

WORD_BITS = 32
WORD_MASK = 4294967295
BLOCK_BYTES = 64
BLOCK_WORDS = 16
SUM_BYTES = 32

# The first 32 bits behind the point of the square roots of the first eight primes.
FIRST_WORDS = (
    0x6a09e667, 0xbb67ae85, 0x3c6ef372, 0xa54ff53a, 0x510e527f, 0x9b05688c, 0x1f83d9ab, 0x5be0cd19,
)

# The first 32 bits behind the point of the cube roots of the first 64 primes.
ROUND_NUMBERS = (
    0x428a2f98, 0x71374491, 0xb5c0fbcf, 0xe9b5dba5, 0x3956c25b, 0x59f111f1, 0x923f82a4, 0xab1c5ed5,
    0xd807aa98, 0x12835b01, 0x243185be, 0x550c7dc3, 0x72be5d74, 0x80deb1fe, 0x9bdc06a7, 0xc19bf174,
    0xe49b69c1, 0xefbe4786, 0x0fc19dc6, 0x240ca1cc, 0x2de92c6f, 0x4a7484aa, 0x5cb0a9dc, 0x76f988da,
    0x983e5152, 0xa831c66d, 0xb00327c8, 0xbf597fc7, 0xc6e00bf3, 0xd5a79147, 0x06ca6351, 0x14292967,
    0x27b70a85, 0x2e1b2138, 0x4d2c6dfc, 0x53380d13, 0x650a7354, 0x766a0abb, 0x81c2c92e, 0x92722c85,
    0xa2bfe8a1, 0xa81a664b, 0xc24b8b70, 0xc76c51a3, 0xd192e819, 0xd6990624, 0xf40e3585, 0x106aa070,
    0x19a4c116, 0x1e376c08, 0x2748774c, 0x34b0bcb5, 0x391c0cb3, 0x4ed8aa4a, 0x5b9cca4f, 0x682e6ff3,
    0x748f82ee, 0x78a5636f, 0x84c87814, 0x8cc70208, 0x90befffa, 0xa4506ceb, 0xbef9a3f7, 0xc67178f2,
)


def filled_up(message):
    """The message with what follows it, a multiple of a block's bytes."""
    # A block holds 55 bytes beside the byte 128 and the eight bytes of the length.
    zeros = (55 - len(message)) % BLOCK_BYTES
    return message + [128] + [0] * zeros + row_of(8 * len(message), 8)


def turned(word, bits):
    """The word turned to the right by so many bits."""
    return (word >> bits) | ((word << (WORD_BITS - bits)) & WORD_MASK)


def words_of(block):
    """The words of a block: its own sixteen, and one made for each further round number."""
    words = [number_of(block[start:start + 4]) for start in range(0, BLOCK_BYTES, 4)]
    for place in range(BLOCK_WORDS, len(ROUND_NUMBERS)):
        u = words[place - 15]
        v = words[place - 2]
        from_u = turned(u, 7) ^ turned(u, 18) ^ (u >> 3)
        from_v = turned(v, 17) ^ turned(v, 19) ^ (v >> 10)
        words.append((words[place - 16] + from_u + words[place - 7] + from_v) & WORD_MASK)
    return words


def stirred(eight, block):
    """The eight words once a block has gone into them."""
    a = eight[0]
    b = eight[1]
    c = eight[2]
    d = eight[3]
    e = eight[4]
    f = eight[5]
    g = eight[6]
    h = eight[7]
    for k, w in zip(ROUND_NUMBERS, words_of(block)):
        t = h + (turned(e, 6) ^ turned(e, 11) ^ turned(e, 25)) + ((e & f) ^ (~e & g)) + k + w
        u = (turned(a, 2) ^ turned(a, 13) ^ turned(a, 22)) + ((a & b) ^ (a & c) ^ (b & c))
        h = g
        g = f
        f = e
        e = (d + t) & WORD_MASK
        d = c
        c = b
        b = a
        a = (t + u) & WORD_MASK
    return [(before + after) & WORD_MASK for before, after in zip(eight, [a, b, c, d, e, f, g, h])]


def sum_of(message):
    """The sum of a message, a row of SUM_BYTES bytes."""
    eight = list(FIRST_WORDS)
    filled = filled_up(message)
    for start in range(0, len(filled), BLOCK_BYTES):
        eight = stirred(eight, filled[start:start + BLOCK_BYTES])
    result = []
    for word in eight:
        result.extend(row_of(word, 4))
    return result


def mask_of(seed, size):
    """The mask of a seed, a row of size bytes."""
    mask = []
    turn = 0
    while len(mask) < size:
        mask.extend(sum_of(seed + row_of(turn, 4)))
        turn += 1
    return mask[:size]
