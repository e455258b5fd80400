"""Codes of baths: lists of small integers."""

from rakedpapers.baths import Bath
from rakedpapers.checks import MOST_SIDE, is_number
from rakedpapers.errors import DecodeError

FIRST_ITEM = 103
CHECKSUM_BEGIN = 9
CHECKSUM_FACTOR = 17
CHECKSUM_MODULUS = 227

# The number of a sign is its place.
SIGNS = ".abcdefghijklmnopqrstuvwxyz"


def checksum(items):
    """Return the checksum of some items."""
    total = CHECKSUM_BEGIN
    for item in items:
        total = (CHECKSUM_FACTOR * total + item) % CHECKSUM_MODULUS
    return total


def encode_bath(bath):
    """Return the code of a bath."""
    items = [FIRST_ITEM, bath.width, bath.height] + [SIGNS.index(sign) for sign in bath.cells]
    return items + [checksum(items)]


def check_item(values, offset, least, most):
    """Raise DecodeError if an item is missing, or no integer within two bounds."""
    if offset >= len(values) or not is_number(values[offset], least, most):
        raise DecodeError(offset)


def decode_bath(values):
    """Return the bath of a code."""
    check_item(values, 0, FIRST_ITEM, FIRST_ITEM)
    check_item(values, 1, 1, MOST_SIDE)
    check_item(values, 2, 1, MOST_SIDE)
    last = 3 + values[1] * values[2]
    for offset in range(3, last):
        check_item(values, offset, 0, len(SIGNS) - 1)
    right = checksum(values[:last])
    check_item(values, last, right, right)
    if len(values) > last + 1:
        raise DecodeError(last + 1)
    return Bath(values[1], values[2], "".join([SIGNS[item] for item in values[3:last]]))
