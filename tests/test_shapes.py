"""Shapes: which things are shapes, and the least and the most bits of their records."""

import copy
import itertools
import unittest

from bitpack import shapes
from bitpack.shapes import good_shape, least_bits, most_bits

BIT = ("num", 1, 0, 1)
FAR = 10 ** 20

# Each kind that has shapes in it, made around a shape.
AROUND = {
    "maybe": lambda shape: ("maybe", shape),
    "rows": lambda shape: ("rows", 2, shape),
    "group": lambda shape: ("group", [shape]),
    "group, deep at the end": lambda shape: ("group", [BIT, shape]),
    "group, deep at the start": lambda shape: ("group", [shape, BIT]),
    "one": lambda shape: ("one", 0, [shape]),
    "one, deep at the end": lambda shape: ("one", 1, [BIT, shape]),
    "one, deep at the start": lambda shape: ("one", 1, [shape, BIT]),
}

# Each kind that is one deep.
BOTTOMS = {"num": BIT, "pad": ("pad", 3), "group": ("group", [])}

# Things that are no shapes by themselves, and nowhere in a shape.
NO_SHAPES = [
    None, True, False, 0, 1, -5, 10 ** 30, "", "num", "pad", "maybe", [], (), [[]], ((),), ([],), [()],
    ("num",), ("pad",), ("maybe",), ("rows",), ("group",), ("one",), (None,), (True,), (1,), ([], []),
    ["num", 1, 0, 1], ["pad", 3], ["maybe", BIT], ["rows", 2, BIT], ["group", []], ["one", 0, [BIT]],
    [BIT], (BIT,), (BIT, BIT), ("Num", 1, 0, 1), ("NUM", 1, 0, 1), ("number", 1, 0, 1), ("", 1, 0, 1),
    (None, 1, 0, 1), (0, 1, 0, 1), (["num"], 1, 0, 1), (("num",), 1, 0, 1), ("pads", 3), ("Pad", 3),
    ("may be", BIT), ("Maybe", BIT), ("row", 2, BIT), ("groups", []), ("One", 0, [BIT]), ("any", 0, [BIT]),
]

# What stands for a number and is none.
NO_NUMBERS = [True, False, None, "", "1", [], [1], (), (1,), BIT]


def nested(kind, times, bottom):
    """A thing of one kind around itself so many times, a bottom in its midst."""
    for _ in range(times):
        bottom = AROUND[kind](bottom)
    return bottom


def places_in(thing):
    """A thing with each single part of it, at any depth, replaced by a hole."""
    yield lambda hole: hole
    if isinstance(thing, (list, tuple)):
        for at, part in enumerate(thing):
            for put in places_in(part):
                yield lambda hole, at=at, put=put: type(thing)([*thing[:at], put(hole), *thing[at + 1:]])


class Checks(unittest.TestCase):
    def assert_good(self, thing):
        self.assertIs(good_shape(thing), True, thing)

    def assert_bad(self, thing):
        self.assertIs(good_shape(thing), False, thing)


class KindsTest(Checks):
    def test_is_defined_in_shapes(self):
        for function in (good_shape, least_bits, most_bits):
            self.assertEqual(function.__module__, "bitpack.shapes")
            self.assertIs(getattr(shapes, function.__name__), function)

    def test_num_widths(self):
        for width in range(65):
            self.assert_good(("num", width, 0, 0))
        for width in (-1, -64, 65, 66, 128, FAR):
            self.assert_bad(("num", width, 0, 0))

    def test_num_distance_against_the_width(self):
        for width in range(65):
            for least in (0, 1, -1, -FAR, FAR - 2 ** width + 1):
                self.assert_good(("num", width, least, least + 2 ** width - 1))
                self.assert_bad(("num", width, least, least + 2 ** width))
        self.assert_good(("num", 3, 0, 4))
        self.assert_good(("num", 3, -3, 4))
        self.assert_bad(("num", 3, -4, 4))
        self.assert_bad(("num", 0, 0, 1))
        self.assert_bad(("num", 64, -1, 2 ** 64 - 1))

    def test_num_least_no_greater_than_most(self):
        self.assert_good(("num", 4, 5, 5))
        self.assert_bad(("num", 4, 5, 4))
        self.assert_bad(("num", 0, 0, -1))
        self.assert_bad(("num", 64, 1, -1))
        self.assert_bad(("num", 4, FAR, -FAR))

    def test_num_bounds_of_least_and_most(self):
        self.assert_good(("num", 0, FAR, FAR))
        self.assert_good(("num", 0, -FAR, -FAR))
        self.assert_good(("num", 1, FAR - 1, FAR))
        self.assert_good(("num", 1, -FAR, -FAR + 1))
        self.assert_bad(("num", 1, FAR, FAR + 1))
        self.assert_bad(("num", 0, FAR + 1, FAR + 1))
        self.assert_bad(("num", 1, -FAR - 1, -FAR))
        self.assert_bad(("num", 0, -FAR - 1, -FAR - 1))
        self.assert_bad(("num", 64, -FAR, FAR))

    def test_pad(self):
        for width in range(65):
            self.assert_good(("pad", width))
        for width in (-1, -2, 65, 100, FAR):
            self.assert_bad(("pad", width))

    def test_maybe(self):
        self.assert_good(("maybe", BIT))
        self.assert_good(("maybe", ("pad", 0)))
        self.assert_good(("maybe", ("group", [])))
        self.assert_bad(("maybe", [BIT]))
        self.assert_bad(("maybe", ("pad", 65)))

    def test_rows(self):
        for width in range(9):
            self.assert_good(("rows", width, BIT))
        for width in (-1, 9, 10, 64):
            self.assert_bad(("rows", width, BIT))
        self.assert_bad(("rows", 2, [BIT]))
        self.assert_bad(("rows", 0, ("pad", -1)))
        self.assert_bad(("rows", BIT, 2))

    def test_group(self):
        for many in range(21):
            self.assert_good(("group", [BIT] * many))
        for many in (21, 22, 40):
            self.assert_bad(("group", [BIT] * many))
        self.assert_bad(("group", ()))
        self.assert_bad(("group", (BIT, BIT)))
        self.assert_bad(("group", BIT))

    def test_one_how_many_shapes(self):
        for many in range(1, 17):
            self.assert_good(("one", 8, [BIT] * many))
        for many in (0, 17, 18, 32, 256):
            self.assert_bad(("one", 8, [BIT] * many))
        self.assert_bad(("one", 0, []))
        self.assert_bad(("one", 2, (BIT, BIT)))
        self.assert_bad(("one", 2, ()))
        self.assert_bad(("one", 2, BIT))

    def test_one_how_many_shapes_against_the_width(self):
        for width in range(9):
            for many in range(1, 19):
                shape = ("one", width, [BIT] * many)
                self.assertIs(good_shape(shape), many <= 16 and many <= 2 ** width, shape)

    def test_one_widths(self):
        for width in range(9):
            self.assert_good(("one", width, [BIT]))
        for width in (-1, 9, 10, 64):
            self.assert_bad(("one", width, [BIT]))

    def test_no_numbers_for_numbers(self):
        for other in NO_NUMBERS:
            self.assert_bad(("num", other, 0, 0))
            self.assert_bad(("num", 4, other, 1))
            self.assert_bad(("num", 4, 0, other))
            self.assert_bad(("pad", other))
            self.assert_bad(("rows", other, BIT))
            self.assert_bad(("one", other, [BIT]))
        self.assert_bad(("num", True, False, True))

    def test_too_many_and_too_few_things(self):
        for shape in (BIT, ("pad", 3), ("maybe", BIT), ("rows", 2, BIT), ("group", [BIT]), ("one", 1, [BIT])):
            self.assert_good(shape)
            for few in range(len(shape)):
                self.assert_bad(shape[:few])
            for more in (0, None, BIT, [], ()):
                self.assert_bad(shape + (more,))
                self.assert_bad((more,) + shape)
            self.assert_bad(list(shape))
            self.assert_bad(shape[::-1])
            self.assert_bad((shape[0].upper(),) + shape[1:])

    def test_things_of_another_kind(self):
        for kind in ("num", "pad", "maybe", "rows", "group", "one"):
            for things in ((), (1, 0, 1), (3,), (BIT,), (2, BIT), ([BIT],), (1, [BIT])):
                shape = (kind,) + things
                self.assertIs(good_shape(shape), shape in (
                    BIT, ("pad", 3), ("maybe", BIT), ("rows", 2, BIT), ("group", [BIT]), ("one", 1, [BIT]),
                ), shape)


class ThingsTest(Checks):
    def test_no_shapes(self):
        for thing in NO_SHAPES:
            self.assert_bad(thing)

    def test_no_shapes_within_each_kind(self):
        for kind in AROUND:
            for thing in NO_SHAPES:
                for times in (1, 2, 5):
                    self.assert_bad(nested(kind, times, thing))

    def test_wrong_only_deep_within(self):
        shape = ("group", [BIT, ("maybe", ("rows", 2, ("one", 1, [("pad", 1), ("group", [BIT])])))])
        self.assert_good(shape)
        for put in places_in(shape):
            for hole in (None, True, False, -1, FAR, "", "nums", [None], (), ("pad",), ("num", 1, 0, 2)):
                self.assert_bad(put(hole))

    def test_wrong_only_in_the_last_of_many(self):
        for thing in (None, ("pad", 65), ("num", 1, 0, True)):
            self.assert_bad(("group", [BIT] * 19 + [thing]))
            self.assert_bad(("one", 4, [BIT] * 15 + [thing]))

    def test_the_thing_stays(self):
        things = [
            ("group", [BIT, ("one", 1, [BIT, ("rows", 2, ("maybe", BIT))])]),
            ("group", [BIT, ("one", 1, [BIT, BIT, BIT])]),
            ["group", [BIT]],
            [],
        ]
        for thing in things:
            before = copy.deepcopy(thing)
            good_shape(thing)
            self.assertEqual(thing, before)


class DepthTest(Checks):
    def test_8_and_9_deep(self):
        for kind in AROUND:
            for bottom in BOTTOMS.values():
                for deep in range(1, 9):
                    self.assert_good(nested(kind, deep - 1, bottom))
                self.assert_bad(nested(kind, 8, bottom))
                self.assert_bad(nested(kind, 9, bottom))

    def test_8_and_9_deep_of_kinds_mixed(self):
        kinds = ["maybe", "rows", "group, deep at the end", "one, deep at the end"]
        for order in itertools.permutations(kinds):
            for bottom in BOTTOMS.values():
                shape = bottom
                for kind in (order + order)[:7]:
                    shape = AROUND[kind](shape)
                self.assert_good(shape)
                for kind in kinds:
                    self.assert_bad(AROUND[kind](shape))

    def test_the_deepest_shape_tells(self):
        deep = nested("maybe", 6, BIT)
        self.assert_good(("group", [BIT, deep, BIT]))
        self.assert_bad(("group", [BIT, ("maybe", deep), BIT]))
        self.assert_good(("one", 2, [deep, BIT, deep]))
        self.assert_bad(("one", 2, [deep, BIT, ("maybe", deep)]))

    def test_many_shapes_do_not_make_it_deeper(self):
        shape = BIT
        for _ in range(3):
            shape = ("group", [shape] * 5)
        self.assert_good(("group", [shape] * 20))

    def test_somewhat_deeper_and_far_deeper(self):
        for kind in AROUND:
            for times in (10, 12, 20, 100, 5000):
                self.assert_bad(nested(kind, times, BIT))


def lengths_of(shape):
    """How many bits the records of a shape can have, counted record by record as point 6 packs them."""
    kind = shape[0]
    if kind in ("num", "pad"):
        return {shape[1]}
    if kind == "maybe":
        return {1} | {1 + long for long in lengths_of(shape[1])}
    if kind == "rows":
        found, long_now = set(), {shape[1]}
        for _ in range(2 ** shape[1]):
            found |= long_now
            long_now = {long + more for long in long_now for more in lengths_of(shape[2])}
        return found
    if kind == "group":
        found = {0}
        for part in shape[1]:
            found = {long + more for long in found for more in lengths_of(part)}
        return found
    return {shape[1] + long for part in shape[2] for long in lengths_of(part)}


class LengthsTest(Checks):
    def assert_lengths(self, shape, least, most):
        before = copy.deepcopy(shape)
        self.assert_good(shape)
        self.assertEqual((least_bits(shape), most_bits(shape)), (least, most), shape)
        self.assertIs(type(least_bits(shape)), int)
        self.assertIs(type(most_bits(shape)), int)
        self.assertEqual(shape, before)

    def test_num(self):
        for width in (0, 1, 5, 64):
            self.assert_lengths(("num", width, 0, 0), width, width)
            self.assert_lengths(("num", width, -7, 2 ** width - 8), width, width)

    def test_pad(self):
        for width in (0, 1, 5, 64):
            self.assert_lengths(("pad", width), width, width)

    def test_maybe(self):
        self.assert_lengths(("maybe", ("num", 5, 0, 9)), 1, 6)
        self.assert_lengths(("maybe", ("pad", 0)), 1, 1)
        self.assert_lengths(("maybe", ("maybe", BIT)), 1, 3)

    def test_rows(self):
        self.assert_lengths(("rows", 0, ("pad", 64)), 0, 0)
        self.assert_lengths(("rows", 1, BIT), 1, 2)
        self.assert_lengths(("rows", 2, ("num", 5, 0, 9)), 2, 17)
        self.assert_lengths(("rows", 3, ("pad", 0)), 3, 3)
        self.assert_lengths(("rows", 8, ("pad", 64)), 8, 8 + 255 * 64)
        self.assert_lengths(("rows", 2, ("maybe", BIT)), 2, 8)
        self.assert_lengths(("rows", 2, ("rows", 2, BIT)), 2, 17)

    def test_group(self):
        self.assert_lengths(("group", []), 0, 0)
        self.assert_lengths(("group", [BIT]), 1, 1)
        self.assert_lengths(("group", [("pad", 3), BIT, ("pad", 0), ("num", 4, 2, 9)]), 8, 8)
        self.assert_lengths(("group", [("maybe", BIT), ("rows", 1, ("pad", 7))]), 2, 10)
        self.assert_lengths(("group", [("pad", 64)] * 20), 1280, 1280)
        self.assert_lengths(("group", [("group", []), ("group", [])]), 0, 0)

    def test_one(self):
        self.assert_lengths(("one", 0, [BIT]), 1, 1)
        self.assert_lengths(("one", 0, [("group", [])]), 0, 0)
        self.assert_lengths(("one", 8, [("pad", 0)]), 8, 8)
        for parts in itertools.permutations([("pad", 5), ("pad", 2), ("pad", 9)]):
            self.assert_lengths(("one", 2, list(parts)), 4, 11)
        self.assert_lengths(("one", 1, [("maybe", ("pad", 6)), ("pad", 4)]), 2, 8)
        self.assert_lengths(("one", 1, [("rows", 2, BIT), ("pad", 0)]), 1, 6)

    def test_kinds_within_kinds(self):
        parts = [("num", 2, 0, 3), ("pad", 0), ("maybe", ("pad", 3)), ("rows", 2, BIT), ("group", [])]
        inner = parts + [("one", 1, [one, other]) for one in parts for other in parts]
        inner += [("group", [one, other]) for one in parts for other in parts]
        for part in inner:
            for shape in (
                part, ("maybe", part), ("rows", 0, part), ("rows", 2, part), ("group", [part, BIT, part]),
                ("one", 0, [part]), ("one", 1, [part, ("pad", 3)]), ("rows", 1, ("maybe", part)),
                ("maybe", ("rows", 2, part)),
            ):
                lengths = lengths_of(shape)
                self.assert_lengths(shape, min(lengths), max(lengths))

    def test_8_deep(self):
        self.assert_lengths(nested("rows", 7, BIT), 2, sum(2 * 3 ** times for times in range(7)) + 3 ** 7)
        self.assert_lengths(nested("maybe", 7, ("group", [])), 1, 7)
        self.assert_lengths(("rows", 8, ("rows", 8, ("rows", 8, ("pad", 64)))), 8, 8 * (1 + 255 + 255 ** 2) + 64 * 255 ** 3)

    def test_somewhat_beyond_raises_no_error(self):
        for shape in (
            ("num", 65, 0, 2 ** 64), ("num", -1, 0, 0), ("pad", 66), ("pad", -1), ("rows", 9, BIT),
            ("rows", -1, BIT), ("group", [BIT] * 21), ("one", 9, [BIT]), ("one", 8, [BIT] * 17),
            ("one", 0, []), ("one", 0, [BIT, BIT]), nested("maybe", 12, BIT), nested("rows", 12, BIT),
        ):
            self.assertLessEqual(least_bits(shape), most_bits(shape), shape)


if __name__ == "__main__":
    unittest.main()
