"""Packing: which records fit a shape, and what their bits are."""

from bitpack.codes import bits_of, room_of
from bitpack.errors import BadRecord
from bitpack.shapes import whole_within


def fits(shape, record):
    """Whether a record, whatever it is, fits a shape."""
    match shape:
        case ("num", _, least, most):
            return whole_within(record, least, most)
        case ("pad", _):
            return record is None
        case ("maybe", part):
            # A maybe is as rows of none or one: the same records, and the same bits.
            return fits_rows(1, part, record)
        case ("rows", width, part):
            return fits_rows(width, part, record)
        case ("group", parts):
            return fits_each(parts, record)
        case ("one", _, parts):
            return fits_one(parts, record)


def fits_rows(width, part, record):
    """Whether a record is a list of things of one shape, as many as a width can tell."""
    return (
        isinstance(record, list)
        and len(record) < room_of(width)
        and fits_each([part] * len(record), record)
    )


def fits_each(parts, record):
    """Whether a record is a list of as many things as there are parts, each of which fits its part."""
    return (
        isinstance(record, list)
        and len(record) == len(parts)
        and all([fits(part, thing) for part, thing in zip(parts, record)])
    )


def fits_one(parts, record):
    """Whether a record is a tuple of the place of a part and a thing that fits that part."""
    if not isinstance(record, tuple) or len(record) != 2:
        return False
    place, thing = record
    return whole_within(place, 0, len(parts) - 1) and fits(parts[place], thing)


def packed(shape, record):
    """The bits of a record. Refuses with BadRecord where the record does not fit."""
    if not fits(shape, record):
        raise BadRecord("the record does not fit the shape")
    return bits_by(shape, record)


def bits_by(shape, record):
    """The bits of a record that fits."""
    match shape:
        case ("num", width, least, _):
            return bits_of(record - least, width)
        case ("pad", width):
            return [0] * width
        case ("maybe", part):
            return bits_of_rows(1, part, record)
        case ("rows", width, part):
            return bits_of_rows(width, part, record)
        case ("group", parts):
            return bits_of_each(parts, record)
        case ("one", width, parts):
            place, thing = record
            return bits_of(place, width) + bits_by(parts[place], thing)


def bits_of_rows(width, part, things):
    """How many things there are, in width bits, and behind it the bits of each."""
    return bits_of(len(things), width) + bits_of_each([part] * len(things), things)


def bits_of_each(parts, things):
    """The bits of each thing by its part, one behind the other."""
    bits = []
    for part, thing in zip(parts, things):
        bits.extend(bits_by(part, thing))
    return bits
