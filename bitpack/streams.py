"""Rows of records: records of one shape packed one behind the other, and read back, also in pieces."""

from bitpack.errors import NoBits, Short, Wrong
from bitpack.packing import packed
from bitpack.reading import read_at
from bitpack.shapes import least_bits


def packed_all(shape, records):
    """The bits of records, one behind the other. Refuses with NoBits, then with BadRecord."""
    refuse_no_bits(shape)
    bits = []
    for record in records:
        bits.extend(packed(shape, record))
    return bits


def unpacked_all(shape, bits):
    """The records that bits are, one behind the other. Refuses with NoBits, Wrong or Short."""
    refuse_no_bits(shape)
    records, behind = whole_records(shape, bits)
    if behind < len(bits):
        raise Short(f"the record that begins at {behind} is not whole")
    return records


def refuse_no_bits(shape):
    """Refuses a shape of which a record may have no bits with NoBits."""
    # Below nought are the least bits of widths below nought, beyond what a shape may have.
    if least_bits(shape) < 1:
        raise NoBits("the shape has a record without bits")


def whole_records(shape, bits):
    """The records that are whole, in order, and the place behind them.

    What is behind them begins a record or is no bit; else it is refused with Wrong.
    """
    records = []
    behind = 0
    while behind < len(bits):
        told = read_at(shape, bits, behind)
        if told[0] == "wrong":
            raise Wrong(f"no record goes on with the bit at {told[1]}")
        if told[0] == "short":
            break
        _, record, behind = told
        records.append(record)
    return (records, behind)


class Stream:
    """Reads a row of records in pieces."""

    def __init__(self, shape):
        """Refuses with NoBits."""
        refuse_no_bits(shape)
        self.shape = shape
        self.rest = []
        self.given = 0

    def take(self, bits):
        """Puts a piece behind the bits that wait, and gives the records that are whole by now.

        Refuses with Wrong, and is then as it was ahead of the piece.
        """
        come = self.rest + bits
        records, behind = whole_records(self.shape, come)
        self.rest = come[behind:]
        self.given = self.given + behind
        return records

    def waiting(self):
        """The bits that wait for the rest of their record."""
        return list(self.rest)

    def seen(self):
        """How many bits the records have that were given."""
        return self.given
