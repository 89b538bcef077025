"""Numbers as bits, the bit of the greatest worth first."""

from bitpack.errors import TooWide


def room_of(width):
    """How many numbers go into a width: 2 to the power width, and 1 for a width below 0."""
    return 1 << max(width, 0)


def bits_of(number, width):
    """The bits of a number, as many as the width. Refuses with TooWide."""
    if not 0 <= number < room_of(width):
        # The number is not named here: Python fails to write out one of many thousand digits.
        raise TooWide(f"the number does not go into {width} bits")
    return [(number >> worth) & 1 for worth in reversed(range(width))]


def number_of(bits):
    """The whole number that bits are; 0 for no bits."""
    number = 0
    for bit in bits:
        number = number * 2 + bit
    return number


def code_at(bits, place, width, most):
    """Reads a number of 0 to most in width bits from a place on.

    Gives ("read", number, behind), ("short", place) or ("wrong", place).
    """
    behind = place + max(width, 0)
    number = 0
    for at, bit in enumerate(bits[place:behind], start=place):
        number = number * 2 + bit
        # Of all numbers that begin so, the least is the one with noughts behind.
        if number << (behind - at - 1) > most:
            return ("wrong", at)
    if behind > len(bits):
        return ("short", len(bits))
    return ("read", number, behind)
