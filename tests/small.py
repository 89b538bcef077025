"""Small shapes with all of their records, counted out by the words of the document and not by the program."""

import copy
import inspect
import itertools
import random
import unittest

BIT = ("num", 1, 0, 1)
THREE = ("num", 3, 0, 4)


def all_bits(most_long):
    """Every list of at most so many bits."""
    for long in range(most_long + 1):
        for bits in itertools.product([0, 1], repeat=long):
            yield list(bits)


def written(number, width):
    """The bits of a number by Python's own writing, not by the program's."""
    return [int(sign) for sign in f"{number:0{width}b}"] if width else []


def joined(ones):
    """Several records with their bits as one list of records with the bits one behind the other."""
    return [record for record, _ in ones], [bit for _, bits in ones for bit in bits]


def records_of(shape):
    """Every record of a shape with its bits, by the words of points 4 and 6."""
    kind = shape[0]
    if kind == "num":
        _, width, least, most = shape
        return [(number, written(number - least, width)) for number in range(least, most + 1)]
    if kind == "pad":
        return [(None, [0] * shape[1])]
    if kind == "maybe":
        return [([], [0])] + [([thing], [1] + bits) for thing, bits in records_of(shape[1])]
    if kind == "group":
        return [joined(ones) for ones in itertools.product(*map(records_of, shape[1]))]
    if kind == "rows":
        found = []
        for many in range(2 ** shape[1]):
            for ones in itertools.product(records_of(shape[2]), repeat=many):
                things, bits = joined(ones)
                found.append((things, written(many, shape[1]) + bits))
        return found
    return [
        ((place, thing), written(place, shape[1]) + bits)
        for place, part in enumerate(shape[2])
        for thing, bits in records_of(part)
    ]


class Words:
    """What the document's words tell of a small shape, from the bits of all of its records."""

    def __init__(self, shape):
        self.records = records_of(shape)
        self.by_bits = {tuple(bits): record for record, bits in self.records}
        self.beginnings = {tuple(bits[:long]) for _, bits in self.records for long in range(len(bits) + 1)}
        self.begun_by = {}
        for record, bits in self.records:
            for long in range(len(bits), -1, -1):
                if 1 in bits[long:]:
                    break
                self.begun_by.setdefault(tuple(bits[:long]), []).append(record)

    def looked(self, bits):
        """What bits are, by point 8."""
        if tuple(bits) in self.by_bits:
            return ("read", self.by_bits[tuple(bits)])
        long = max(long for long in range(len(bits) + 1) if tuple(bits[:long]) in self.beginnings)
        if long == len(bits):
            return ("short", long)
        return ("left" if tuple(bits[:long]) in self.by_bits else "wrong", long)

    def begun(self, bits):
        """The records that are begun by bits, by point 10."""
        return self.begun_by.get(tuple(bits), [])

    def row(self, bits):
        """The records that are whole at the beginning of bits, the bits behind them, and what those are."""
        records, behind = [], 0
        while True:
            ends = [end for end in range(behind + 1, len(bits) + 1) if tuple(bits[behind:end]) in self.by_bits]
            if not ends:
                return records, bits[behind:], self.looked(bits[behind:])[0]
            records.append(self.by_bits[tuple(bits[behind:ends[0]])])
            behind = ends[0]


def around(part):
    """Shapes of each kind around a shape."""
    return [
        ("maybe", part), ("rows", 0, part), ("rows", 1, part), ("rows", 2, part),
        ("group", [part]), ("group", [BIT, part]), ("group", [part, ("pad", 1)]), ("group", [part, part]),
        ("one", 0, [part]), ("one", 1, [part]), ("one", 1, [part, ("pad", 1)]), ("one", 2, [THREE, ("pad", 0), part]),
    ]


BOTTOMS = [
    BIT, THREE, ("num", 0, 5, 5), ("num", 2, -1, 1), ("num", 2, -7, -4), ("num", 3, 6, 6),
    ("pad", 0), ("pad", 1), ("pad", 3), ("group", []),
]
ONCE = BOTTOMS + [shape for bottom in BOTTOMS for shape in around(bottom)]
TWICE = [shape for bottom in (BIT, ("num", 2, 2, 3), ("pad", 0)) for inner in around(bottom) for shape in around(inner)]
SMALL = ONCE + [shape for shape in TWICE if shape not in ONCE]
# Every kind in one shape, and things behind the ones that differ in length.
MIXED = ("group", [
    THREE, ("maybe", ("num", 2, -1, 1)), ("rows", 2, ("one", 2, [("pad", 2), BIT, ("group", [])])), ("pad", 1), BIT,
])

# Each of these has just one record, and that one has no bits.
WITHOUT_BITS = [
    (("num", 0, 5, 5), 5), (("pad", 0), None), (("group", []), []), (("rows", 0, BIT), []),
    (("one", 0, [("pad", 0)]), (0, None)), (("group", [("pad", 0), ("num", 0, -2, -2)]), [None, -2]),
    (("one", 0, [("group", [("rows", 0, ("pad", 9)), ("group", [])])]), (0, [[], []])),
]


def made_shape(chance, deep):
    """A shape of at most so many kinds within each other, by a chance with a told seed."""
    kind = chance.choice(["num", "pad"] if deep == 1 else ["num", "pad", "maybe", "rows", "group", "one"])
    if kind == "num":
        width = chance.randint(0, 64)
        least = chance.randint(-10 ** 20, 10 ** 20 - 2 ** width)
        return ("num", width, least, least + chance.randint(0, 2 ** width - 1))
    if kind == "pad":
        return ("pad", chance.randint(0, 6))
    if kind == "maybe":
        return ("maybe", made_shape(chance, deep - 1))
    if kind == "rows":
        return ("rows", chance.randint(0, 3), made_shape(chance, deep - 1))
    parts = [made_shape(chance, deep - 1) for _ in range(chance.randint(1, 4))]
    return ("group", parts) if kind == "group" else ("one", chance.randint(2, 8), parts)


def made_record(chance, shape):
    """A record of a shape, by a chance with a told seed."""
    kind = shape[0]
    if kind == "num":
        return chance.choice([shape[2], shape[3], chance.randint(shape[2], shape[3])])
    if kind == "pad":
        return None
    if kind == "maybe":
        return [made_record(chance, shape[1]) for _ in range(chance.randint(0, 1))]
    if kind == "rows":
        return [made_record(chance, shape[2]) for _ in range(chance.randint(0, 2 ** shape[1] - 1))]
    if kind == "group":
        return [made_record(chance, part) for part in shape[1]]
    place = chance.randrange(len(shape[2]))
    return (place, made_record(chance, shape[2][place]))


def made_pairs(seed, many):
    """So many shapes, each with a record of it."""
    chance = random.Random(seed)
    for _ in range(many):
        shape = made_shape(chance, chance.randint(1, 5))
        yield shape, made_record(chance, shape)


def lists_in(thing):
    """Every list in a thing, at any depth, itself among them."""
    if isinstance(thing, (list, tuple)):
        for part in thing:
            yield from lists_in(part)
    if isinstance(thing, list):
        yield thing


def scribble(thing):
    """Changes every list in a thing, as a caller may do with what was given."""
    for each in list(lists_in(thing)):
        each.reverse()
        each.append("scribble")


class Checks(unittest.TestCase):
    def assert_same(self, thing, other):
        """The two are alike, kinds of values too: 1 is not True, and a list no tuple."""
        self.assertEqual(repr(thing), repr(other))

    def assert_defined_in(self, module, **names):
        """The module itself defines these functions, with these arguments."""
        for name, arguments in names.items():
            function = getattr(module, name)
            self.assertTrue(inspect.isfunction(function), name)
            self.assertEqual(function.__module__, module.__name__)
            self.assertEqual(list(inspect.signature(function).parameters), arguments, name)

    def assert_refused(self, error, function, *asked):
        """The function refuses what is asked with just this error, and leaves it as it is."""
        before = copy.deepcopy(asked)
        with self.assertRaises(error) as caught:
            function(*asked)
        self.assertIs(caught.exception.__class__, error)
        self.assert_same(asked, before)
