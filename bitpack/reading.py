"""Reading: the record that bits are, or the place where they are refused."""

from bitpack.codes import code_at, room_of
from bitpack.errors import Left, Short, Wrong


def looked(shape, bits):
    """What bits are: ("read", record), ("short", place), ("left", place) or ("wrong", place)."""
    told = read_at(shape, bits, 0)
    if told[0] != "read":
        return told
    _, record, behind = told
    if behind < len(bits):
        return ("left", behind)
    return ("read", record)


def unpacked(shape, bits):
    """The record that bits are. Refuses with Short, Left or Wrong."""
    told = looked(shape, bits)
    if told[0] == "short":
        raise Short(f"the bits end at {told[1]}, where the record is not whole")
    if told[0] == "left":
        raise Left(f"the record is whole at {told[1]}, where the bits do not end")
    if told[0] == "wrong":
        raise Wrong(f"no record goes on with the bit at {told[1]}")
    return told[1]


def begun(shape, bits):
    """A list of the one record that is begun by bits, with noughts behind them; [] where they begin none."""
    told = looked(shape, bits)
    longer = bits
    while told[0] == "short":
        # Twice as many each time: how many noughts the record goes on with is known only from reading it.
        longer = longer + [0] * (len(longer) + 1)
        # Noughts that are left over do no harm, so this does not ask whether the record ends with them.
        told = read_at(shape, longer, 0)
    if told[0] == "read":
        return [told[1]]
    return []


def read_at(shape, bits, place):
    """Reads a record from a place on, whatever is behind it.

    Gives ("read", record, behind), ("short", place) or ("wrong", place), with places counted as code_at does.
    """
    match shape:
        case ("num", width, least, most):
            return read_num(width, least, most, bits, place)
        case ("pad", width):
            return read_pad(width, bits, place)
        case ("maybe", part):
            # A maybe is as rows of none or one: the same records, and the same bits.
            return read_rows(1, part, bits, place)
        case ("rows", width, part):
            return read_rows(width, part, bits, place)
        case ("group", parts):
            return read_each(parts, bits, place)
        case ("one", width, parts):
            return read_one(width, parts, bits, place)


def read_num(width, least, most, bits, place):
    """Reads a num from a place on."""
    told = code_at(bits, place, width, most - least)
    if told[0] != "read":
        return told
    _, number, behind = told
    return ("read", number + least, behind)


def read_pad(width, bits, place):
    """Reads a pad from a place on."""
    # The noughts are a number of which nought is the only one that may stand there.
    told = code_at(bits, place, width, 0)
    if told[0] != "read":
        return told
    return ("read", None, told[2])


def read_rows(width, part, bits, place):
    """Reads how many things there are, and then each of them, from a place on."""
    told = code_at(bits, place, width, room_of(width) - 1)
    if told[0] != "read":
        return told
    _, many, behind = told
    return read_each([part] * many, bits, behind)


def read_each(parts, bits, place):
    """Reads a list of one thing for each part, one behind the other, from a place on."""
    things = []
    behind = place
    for part in parts:
        told = read_at(part, bits, behind)
        if told[0] != "read":
            return told
        _, thing, behind = told
        things.append(thing)
    return ("read", things, behind)


def read_one(width, parts, bits, place):
    """Reads the place of a part, and then a thing by that part, from a place on."""
    if not parts:
        # A one without parts is no shape, but no error is asked for it either: it has no record.
        return ("wrong", place)
    told = code_at(bits, place, width, len(parts) - 1)
    if told[0] != "read":
        return told
    _, at, behind = told
    told = read_at(parts[at], bits, behind)
    if told[0] != "read":
        return told
    _, thing, behind = told
    return ("read", (at, thing), behind)
