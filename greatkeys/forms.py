"""The forms, of a key's size, that messages take before a key is put to them."""

from greatkeys.bytewise import exclusive_or
from greatkeys.sums import SUM_BYTES, mask_of, sum_of

SALT_BYTES = 32
SEED_BYTES = 32

# What a form has beside the plain form's bytes 255, the salted form's bytes 0,
# and the sealed form's bytes 0 and message.
PLAIN_REST = 54
SALTED_REST = 66
SEALED_REST = 66

# Stands ahead of a sum in the plain form and says that it's such a sum.
SUM_SIGN = (
    0x30, 0x31, 0x30, 0x0d, 0x06, 0x09, 0x60, 0x86, 0x48, 0x01, 0x65, 0x03, 0x04, 0x02, 0x01, 0x05, 0x00, 0x04, 0x20,
)
SALTED_END = 0xbc
ALL_BUT_HIGHEST_BIT = 127


def masked(row, seed):
    """The row under the mask of the seed; masked once more it's the row again."""
    return exclusive_or(row, mask_of(seed, len(row)))


def plain_form(size, message):
    return [0, 1] + [255] * (size - PLAIN_REST) + [0] + list(SUM_SIGN) + sum_of(message)


def salted_form(size, message, salt):
    salted_sum = sum_of([0] * 8 + sum_of(message) + salt)
    front = masked([0] * (size - SALTED_REST) + [1] + salt, salted_sum)
    front[0] = front[0] & ALL_BUT_HIGHEST_BIT
    return front + salted_sum + [SALTED_END]


def is_salted_form(form, message):
    """Whether it's the form of the message with some salt."""
    front_bytes = len(form) - SUM_BYTES - 1
    salted_sum = form[front_bytes:-1]
    # If the form is right, its salt can only be this one: so it's enough to try it.
    salt = masked(form[:front_bytes], salted_sum)[-SALT_BYTES:]
    return form == salted_form(len(form), message, salt)


def fits_sealed_form(size, message):
    """Whether a sealed form has room for the message."""
    return len(message) <= size - SEALED_REST


def sealed_form(size, label, message, seed):
    """The sealed form of a message that fits it."""
    block = sum_of(label) + [0] * (size - SEALED_REST - len(message)) + [1] + message
    hidden_block = masked(block, seed)
    return [0] + masked(seed, hidden_block) + hidden_block


def unmasked_block(form):
    """The block of what may be a sealed form."""
    hidden_block = form[1 + SEED_BYTES:]
    seed = masked(form[1:1 + SEED_BYTES], hidden_block)
    return masked(hidden_block, seed)


def sealed_message(form, label):
    """The message of a sealed form with this label; None if it isn't such a form."""
    block = unmasked_block(form)
    if form[0] != 0 or block[:SUM_BYTES] != sum_of(label):
        return None
    place = SUM_BYTES
    while place < len(block) and block[place] == 0:
        place += 1
    if place == len(block) or block[place] != 1:
        return None
    return block[place + 1:]
