"""Integers in texts."""

MOST_DIGITS = 60
# A number of so many bits has fewer digits than the least limit that Python's str can be given.
PLAIN_BITS = 2000


def number_text(number):
    """The digits of an integer of any size; those of a great one a part at a time, as str refuses it."""
    if number.bit_length() <= PLAIN_BITS:
        return str(number)
    pieces = []
    left = abs(number)
    while left.bit_length() > PLAIN_BITS:
        left, piece = divmod(left, 10 ** 60)
        pieces.append(str(piece).zfill(60))
    pieces.append(str(left))
    if number < 0:
        pieces.append("-")
    return "".join(pieces[::-1])


def is_number_text(item):
    """Whether an item writes an integer that can stand in a text that is read."""
    digits = item[1:] if item.startswith("-") else item
    if not 1 <= len(digits) <= MOST_DIGITS:
        return False
    if not all([sign in "0123456789" for sign in digits]):
        return False
    return item == "0" or not digits.startswith("0")
