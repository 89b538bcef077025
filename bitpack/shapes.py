"""Shapes: which things are shapes, and how many bits their records have."""

from bitpack.codes import room_of

FARTHEST = 10 ** 20
WIDEST_NUMBER = 64
WIDEST_COUNT = 8
MOST_IN_GROUP = 20
MOST_IN_ONE = 16
DEEPEST = 8


def good_shape(thing):
    """Whether a thing, whatever it is, is a shape."""
    return good_within(thing, DEEPEST)


def good_within(thing, deep):
    """Whether a thing is a shape that is no more than deep deep."""
    # The depth is counted down, so that no thing is followed deeper than a shape can be.
    if deep < 1 or not isinstance(thing, tuple):
        return False
    match thing:
        case ("num", width, least, most):
            return good_num(width, least, most)
        case ("pad", width):
            return whole_within(width, 0, WIDEST_NUMBER)
        case ("maybe", part):
            return good_within(part, deep - 1)
        case ("rows", width, part):
            return whole_within(width, 0, WIDEST_COUNT) and good_within(part, deep - 1)
        case ("group", parts):
            return good_parts(parts, 0, MOST_IN_GROUP, deep - 1)
        case ("one", width, parts):
            return good_one(width, parts, deep - 1)
    return False


def good_num(width, least, most):
    """Whether a num may have this width, least and most."""
    return (
        whole_within(width, 0, WIDEST_NUMBER)
        and whole_within(least, -FARTHEST, FARTHEST)
        and whole_within(most, least, FARTHEST)
        and most - least < room_of(width)
    )


def good_one(width, parts, deep):
    """Whether a one may have this width and these parts, none more than deep deep."""
    return (
        whole_within(width, 0, WIDEST_COUNT)
        and good_parts(parts, 1, min(MOST_IN_ONE, room_of(width)), deep)
    )


def good_parts(parts, fewest, many, deep):
    """Whether parts is a list of fewest to many shapes, none more than deep deep."""
    return (
        isinstance(parts, list)
        and fewest <= len(parts) <= many
        and all(good_within(part, deep) for part in parts)
    )


def whole_within(thing, least, most):
    """Whether a thing is a whole number from least to most."""
    # To Python True and False are whole numbers too; here they never are.
    return isinstance(thing, int) and not isinstance(thing, bool) and least <= thing <= most


def least_bits(shape):
    """The fewest bits that a record of a shape has."""
    match shape:
        case ("num", width, _, _):
            return width
        case ("pad", width):
            return width
        case ("maybe", _):
            return 1
        case ("rows", width, _):
            return width
        case ("group", parts):
            return sum([least_bits(each) for each in parts])
        case ("one", width, parts):
            # A one without parts is no shape, but no error is asked for it either.
            return width + min([least_bits(each) for each in parts], default=0)


def most_bits(shape):
    """The most bits that a record of a shape has."""
    match shape:
        case ("num", width, _, _):
            return width
        case ("pad", width):
            return width
        case ("maybe", part):
            return 1 + most_bits(part)
        case ("rows", width, part):
            return width + (room_of(width) - 1) * most_bits(part)
        case ("group", parts):
            return sum([most_bits(each) for each in parts])
        case ("one", width, parts):
            return width + max([most_bits(each) for each in parts], default=0)
