"""Packing: which records fit, what their bits are, and that no record's bits begin another's."""

import copy
import unittest

from bitpack import packing
from bitpack.errors import BadRecord
from bitpack.packing import fits, packed
from bitpack.shapes import good_shape, least_bits, most_bits
from small import (
    BIT, BOTTOMS, MIXED, ONCE, SMALL, THREE, WITHOUT_BITS, Checks, made_pairs, records_of, scribble, written,
)

FAR = 10 ** 20

# Things of every kind that point 4 names, a few of which fit one small shape or another.
THINGS = [
    None, True, False, 0, 1, 2, 3, 4, 5, 6, 7, 8, -1, -2, -4, -7, -8, 255, 256, FAR, -FAR, 10 ** 40, -10 ** 40,
    "", "0", "1", "None", "[]", "num", [], [[]], [[], []], [[[]]], (), ((),), [()], ([],), ([], []),
    [None], [None] * 2, [None] * 3, [None] * 4, (None,), (None, None), [True], [False], [True, False], [""],
    [0], [1], [5], [0, 0], [1, 1], [1, 1, 1], [1, 1, 1, 1], [0, None], [None, 0], [1, None], [0, 1, None],
    (0,), (1,), (0, 0), (0, 1), (1, 0), (1, 1), (2, 0), (2, 1), (3, 0), (-1, 0), (-1, 1), (-1, None), (-2, 0),
    (0, None), (1, None), (2, None), (3, None), (True, 0), (True, None), (False, 0), (False, None), (None, 0),
    (0, True), (0, False), (1, True), ("0", 0), ("0", None), (0, "0"), (0, []), (1, []), (2, []), ([], 0),
    (0, 0, 0), (0, None, None), (1, None, None), (0, 1, 1), [0, 0, 0], [1, None, None],
    [(0, 0)], [(0, None)], [(0, 0), (1, None)], [(0, 0), (1, 0)], [(True, 0)], [(0, 0), [0, 0]],
    [[0]], [[1], [0]], [[0, 0], [0]], [[True]], [[None]], [(0,)], [[0], (0,)], [[0], None], [[0], [2]],
    b"", b"0", [b""],
]

# Kinds within kinds, and a record with a thing of each.
DEEP = ("group", [BIT, ("maybe", ("rows", 2, ("one", 1, [("pad", 1), ("group", [THREE, ("maybe", BIT)])])))])
DEEP_RIGHT = [1, [[(0, None), (1, [4, [1]]), (1, [0, []])]]]


class SmallTest(Checks):
    def test_what_the_tests_take_for_shapes_are_shapes(self):
        for shape in SMALL + [MIXED, DEEP] + [shape for shape, _ in WITHOUT_BITS]:
            self.assertTrue(good_shape(shape), shape)
        for shape, _ in made_pairs(1, 300):
            self.assertTrue(good_shape(shape), shape)


class PackingChecks(Checks):
    def assert_packs(self, shape, record, bits):
        self.assertTrue(good_shape(shape), shape)
        before = copy.deepcopy((shape, record))
        self.assertIs(fits(shape, record), True, (shape, record))
        self.assert_same(packed(shape, record), bits)
        self.assert_same((shape, record), before)

    def assert_fits_not(self, shape, record):
        self.assertTrue(good_shape(shape), shape)
        before = copy.deepcopy((shape, record))
        self.assertIs(fits(shape, record), False, (shape, record))
        self.assert_same((shape, record), before)
        self.assert_refused(BadRecord, packed, shape, record)


class KindsTest(PackingChecks):
    def test_is_defined_in_packing(self):
        self.assert_defined_in(packing, fits=["shape", "record"], packed=["shape", "record"])

    def test_num(self):
        self.assert_packs(("num", 4, 0, 15), 0, [0, 0, 0, 0])
        self.assert_packs(("num", 4, 0, 15), 1, [0, 0, 0, 1])
        self.assert_packs(("num", 4, 0, 15), 8, [1, 0, 0, 0])
        self.assert_packs(("num", 4, 0, 15), 13, [1, 1, 0, 1])
        self.assert_packs(("num", 4, -3, 5), -3, [0, 0, 0, 0])
        self.assert_packs(("num", 4, -3, 5), 0, [0, 0, 1, 1])
        self.assert_packs(("num", 4, -3, 5), 5, [1, 0, 0, 0])
        self.assert_packs(("num", 3, 100, 104), 103, [0, 1, 1])
        self.assert_packs(("num", 0, 7, 7), 7, [])
        self.assert_packs(("num", 5, 7, 7), 7, [0, 0, 0, 0, 0])

    def test_num_least_and_most_and_one_beyond(self):
        for width in (0, 1, 2, 5, 63, 64):
            for many in {1, (2 ** width + 1) // 2, 2 ** width}:
                for least in (0, 1, -1, -5, -FAR, FAR - many + 1):
                    shape = ("num", width, least, least + many - 1)
                    self.assert_packs(shape, least, [0] * width)
                    self.assert_packs(shape, least + many - 1, written(many - 1, width))
                    for other in (least - 1, least + many, least - 2 ** 64, least + 2 ** 64):
                        self.assert_fits_not(shape, other)

    def test_num_where_the_width_has_room_beyond_most(self):
        for number in (5, 6, 7):
            self.assert_fits_not(THREE, number)
        for number in (-4, 2, 3):
            self.assert_fits_not(("num", 8, -3, 1), number)

    def test_num_nothing_but_a_whole_number(self):
        for shape in (BIT, ("num", 0, 0, 0), ("num", 0, 1, 1), ("num", 8, -100, 100)):
            for other in (True, False, None, "", "0", "1", [], [0], [1], (), (0,), (1,), b"1"):
                self.assert_fits_not(shape, other)

    def test_pad(self):
        for width in (0, 1, 2, 7, 64):
            self.assert_packs(("pad", width), None, [0] * width)
            for other in (0, 1, False, True, "", "None", [], [None], [0] * width, (), (None,)):
                self.assert_fits_not(("pad", width), other)

    def test_maybe(self):
        self.assert_packs(("maybe", THREE), [], [0])
        self.assert_packs(("maybe", THREE), [3], [1, 0, 1, 1])
        self.assert_packs(("maybe", ("pad", 0)), [], [0])
        self.assert_packs(("maybe", ("pad", 0)), [None], [1])
        self.assert_packs(("maybe", ("pad", 2)), [None], [1, 0, 0])
        self.assert_packs(("maybe", ("maybe", BIT)), [], [0])
        self.assert_packs(("maybe", ("maybe", BIT)), [[]], [1, 0])
        self.assert_packs(("maybe", ("maybe", BIT)), [[1]], [1, 1, 1])
        for other in ([1, 1], [3, 3, 3], [5], [-1], [None], [[]], [True], (), (3,), None, False, True, 0, 3, "", "3"):
            self.assert_fits_not(("maybe", THREE), other)
        for other in (None, [None, None], [0], [[]], (None,), False):
            self.assert_fits_not(("maybe", ("pad", 2)), other)

    def test_rows(self):
        self.assert_packs(("rows", 2, THREE), [], [0, 0])
        self.assert_packs(("rows", 2, THREE), [4], [0, 1, 1, 0, 0])
        self.assert_packs(("rows", 2, THREE), [1, 4], [1, 0, 0, 0, 1, 1, 0, 0])
        self.assert_packs(("rows", 2, THREE), [1, 4, 0], [1, 1, 0, 0, 1, 1, 0, 0, 0, 0, 0])
        self.assert_packs(("rows", 3, ("pad", 0)), [None] * 5, [1, 0, 1])
        self.assert_packs(("rows", 1, BIT), [1], [1, 1])
        for other in ([1, 4, 0, 1], [1, 1, 1, 1, 1], [5], [1, 4, 5], [1, None], [True], (), (1,), None, 0, 1, "", "1"):
            self.assert_fits_not(("rows", 2, THREE), other)

    def test_rows_as_many_as_go_in_and_one_more(self):
        for width in range(9):
            shape = ("rows", width, BIT)
            for many in {0, 1, 2 ** width // 2, 2 ** width - 1}:
                if many < 2 ** width:
                    things = [place & 1 for place in range(many)]
                    self.assert_packs(shape, things, written(many, width) + things)
            self.assert_fits_not(shape, [0] * 2 ** width)
            self.assert_fits_not(shape, [0] * (2 ** width + 1))

    def test_rows_of_width_0(self):
        for part in (BIT, ("pad", 0), ("pad", 3), ("group", []), ("rows", 0, BIT)):
            self.assert_packs(("rows", 0, part), [], [])
            for other in ([0], [None], [[]], (), None, 0, False, ""):
                self.assert_fits_not(("rows", 0, part), other)

    def test_group(self):
        self.assert_packs(("group", []), [], [])
        self.assert_packs(("group", [BIT]), [1], [1])
        self.assert_packs(("group", [BIT, ("pad", 2), THREE]), [1, None, 3], [1, 0, 0, 0, 1, 1])
        self.assert_packs(("group", [THREE, BIT]), [4, 0], [1, 0, 0, 0])
        self.assert_packs(("group", [BIT] * 20), [1, 0] * 10, [1, 0] * 10)
        self.assert_packs(("group", [("group", []), BIT, ("group", [])]), [[], 1, []], [1])

    def test_group_one_thing_too_few_and_too_many(self):
        for many in (1, 2, 3, 20):
            shape = ("group", [BIT] * many)
            self.assert_packs(shape, [1] * many, [1] * many)
            self.assert_fits_not(shape, [1] * (many - 1))
            self.assert_fits_not(shape, [1] * (many + 1))
            self.assert_fits_not(shape, [])
            self.assert_fits_not(shape, (1,) * many)
        for other in ([None], [[]], (), None, 0, False, ""):
            self.assert_fits_not(("group", []), other)

    def test_group_each_thing_by_its_own_shape(self):
        shape = ("group", [BIT, ("pad", 2), THREE])
        for other in ([None, 1, 3], [1, 3, None], [3, None, 1], [1, None, 5], [2, None, 4], [1, 0, 4], [True, None, 4]):
            self.assert_fits_not(shape, other)

    def test_one(self):
        shape = ("one", 2, [("pad", 3), THREE, ("group", [])])
        self.assert_packs(shape, (0, None), [0, 0, 0, 0, 0])
        self.assert_packs(shape, (1, 4), [0, 1, 1, 0, 0])
        self.assert_packs(shape, (2, []), [1, 0])
        self.assert_packs(("one", 0, [BIT]), (0, 1), [1])
        self.assert_packs(("one", 0, [("pad", 0)]), (0, None), [])
        self.assert_packs(("one", 8, [("pad", 0)] * 16), (15, None), [0, 0, 0, 0, 1, 1, 1, 1])
        self.assert_packs(("one", 1, [BIT, BIT]), (1, 0), [1, 0])
        for other in ((0, 4), (1, None), (2, None), (1, 5), (1, True), (0, []), (2, [[]])):
            self.assert_fits_not(shape, other)

    def test_one_places_below_nought_and_at_the_end_and_beyond(self):
        for many in (1, 2, 3, 16):
            for width in (4, 8):
                shape = ("one", width, [BIT] * many)
                for place in range(many):
                    self.assert_packs(shape, (place, 1), written(place, width) + [1])
                for place in (-1, -many, -many - 1, many, many + 1, 2 ** width, 10 ** 30):
                    self.assert_fits_not(shape, (place, 1))

    def test_one_no_numbers_for_the_place(self):
        for place in (True, False, None, "0", "", [], [0], (), (0,)):
            self.assert_fits_not(("one", 1, [BIT, BIT]), (place, 1))
            self.assert_fits_not(("one", 0, [BIT]), (place, 1))

    def test_one_a_tuple_of_two(self):
        for other in ([0, 1], [], (), (0,), (1,), (0, 1, 1), (0, 1, None), (0, 1, 0, 1), ((0, 1),), [(0, 1)],
                      None, 0, 1, True, "", "01", "0"):
            self.assert_fits_not(("one", 1, [BIT, BIT]), other)

    def test_true_and_false_for_a_list(self):
        for shape in (("maybe", BIT), ("rows", 1, BIT), ("group", []), ("group", [BIT]), ("one", 0, [BIT])):
            for other in (True, False, None, 0, 1, "", "1"):
                self.assert_fits_not(shape, other)

    def test_kinds_within_kinds(self):
        self.assert_packs(DEEP, DEEP_RIGHT, [1, 1, 1, 1, 0, 0, 1, 1, 0, 0, 1, 1, 1, 0, 0, 0, 0])
        self.assert_packs(DEEP, [0, []], [0, 0])
        self.assert_packs(DEEP, [0, [[]]], [0, 1, 0, 0])
        self.assert_packs(("rows", 2, ("rows", 2, BIT)), [[1], [], [0, 1]], [1, 1, 0, 1, 1, 0, 0, 1, 0, 0, 1])
        self.assert_packs(("maybe", ("group", [("maybe", BIT), BIT])), [[[1], 0]], [1, 1, 1, 0])
        self.assert_packs(("one", 1, [BIT, ("one", 1, [BIT, ("pad", 2)])]), (1, (1, None)), [1, 1, 0, 0])
        self.assert_packs(MIXED, [4, [-1], [(1, 1), (0, None), (2, [])], None, 1],
                          [1, 0, 0, 1, 0, 0, 1, 1, 0, 1, 1, 0, 0, 0, 0, 1, 0, 0, 1])

    def test_wrong_only_deep_within(self):
        for record in (
            [2, []], [True, []], [1, [DEEP_RIGHT[1][0], []]], [1, None], [1, [None]], [1, ([],)],
            [1, [[(0, None)] * 4]], [1, [[(0, None), (2, None)]]], [1, [[(0, None), (-1, [4, [1]])]]],
            [1, [[(0, None), (False, None)]]], [1, [[(0, None), [0, None]]]], [1, [[(0, None), (0, 0)]]],
            [1, [[(0, None), (1, [5, [1]])]]], [1, [[(0, None), (1, [4, [2]])]]], [1, [[(0, None), (1, [4, [1, 1]])]]],
            [1, [[(0, None), (1, [4, [True]])]]], [1, [[(0, None), (1, [4])]]], [1, [[(0, None), (1, [4, [], 1])]]],
            [1, [[(0, None), (1, (4, []))]]], [1, [[(0, None), (1, [4, ()])]]], [1, [[(0, None), (1, [4, None])]]],
            [1, [[(0, None), (1, [4, [1]], None)]]],
        ):
            self.assert_fits_not(DEEP, record)

    def test_wrong_only_in_the_last_of_many(self):
        for wrong in (None, True, 2, -1, [], "1"):
            self.assert_fits_not(("rows", 8, BIT), [1] * 254 + [wrong])
            self.assert_fits_not(("rows", 8, BIT), [wrong] + [1] * 254)
            self.assert_fits_not(("group", [BIT] * 20), [1] * 19 + [wrong])
            self.assert_fits_not(("group", [BIT] * 20), [wrong] + [1] * 19)


class ThingsTest(PackingChecks):
    def test_every_thing_against_every_small_shape(self):
        for shape in SMALL:
            bits_by_record = {repr(record): bits for record, bits in records_of(shape)}
            for thing in THINGS:
                with self.subTest(shape=shape, thing=thing):
                    if repr(thing) in bits_by_record:
                        self.assert_packs(shape, thing, bits_by_record[repr(thing)])
                    else:
                        self.assert_fits_not(shape, thing)

    def test_records_of_one_shape_against_another(self):
        records = [record for shape in ONCE for record, _ in records_of(shape)[::7]]
        for shape in ONCE:
            own = {repr(record) for record, _ in records_of(shape)}
            for record in records:
                self.assertIs(fits(shape, record), repr(record) in own, (shape, record))

    def test_things_far_deeper_than_a_shape(self):
        for wrap in (lambda thing: [thing], lambda thing: (0, thing), lambda thing: (thing,)):
            thing = 1
            for _ in range(5000):
                thing = wrap(thing)
            for shape in [MIXED, DEEP] + ONCE:
                self.assertIs(fits(shape, thing), False)
                with self.assertRaises(BadRecord):
                    packed(shape, thing)

    def test_somewhat_beyond_the_limits_raises_no_error(self):
        deep, thing = BIT, 1
        for _ in range(12):
            deep, thing = ("maybe", deep), [thing]
        for shape, record, bits in (
            (("num", 66, 0, 2 ** 65), 2 ** 65, [1] + [0] * 65), (("num", 1, FAR + 5, FAR + 6), FAR + 6, [1]),
            (("pad", 65), None, [0] * 65), (("rows", 9, BIT), [1] * 300, written(300, 9) + [1] * 300),
            (("group", [BIT] * 22), [1] * 22, [1] * 22), (("one", 9, [BIT] * 18), (17, 1), written(17, 9) + [1]),
            (deep, thing, [1] * 13),
        ):
            self.assertIs(fits(shape, record), True)
            self.assert_same(packed(shape, record), bits)
        self.assertIs(fits(("one", 0, []), (0, 1)), False)


class PackedTest(PackingChecks):
    def test_every_record_of_the_small_shapes(self):
        for shape in SMALL + [MIXED]:
            with self.subTest(shape=shape):
                for record, bits in records_of(shape):
                    self.assert_packs(shape, record, bits)

    def test_from_least_bits_to_most_bits(self):
        for shape in SMALL + [MIXED]:
            lengths = {len(packed(shape, record)) for record, _ in records_of(shape)}
            self.assertEqual((min(lengths), max(lengths)), (least_bits(shape), most_bits(shape)), shape)

    def test_no_two_alike_and_none_the_beginning_of_another(self):
        for shape in SMALL + [MIXED]:
            ones = sorted(packed(shape, record) for record, _ in records_of(shape))
            # Among sorted lists, what begins any other one begins the next one.
            for one, other in zip(ones, ones[1:]):
                self.assertNotEqual(one, other[:len(one)], shape)

    def test_shapes_without_bits(self):
        for shape, record in WITHOUT_BITS:
            self.assert_packs(shape, record, [])

    def test_made_shapes(self):
        for shape, record in made_pairs(4, 400):
            before = copy.deepcopy((shape, record))
            self.assertIs(fits(shape, record), True, (shape, record))
            bits = packed(shape, record)
            self.assertTrue(least_bits(shape) <= len(bits) <= most_bits(shape), (shape, record))
            self.assertTrue({repr(bit) for bit in bits} <= {"0", "1"})
            self.assert_same((shape, record), before)

    def test_each_list_is_a_new_one(self):
        for shape in BOTTOMS + [MIXED, DEEP]:
            for record, bits in records_of(shape)[:5]:
                scribble(packed(shape, record))
                self.assert_same(packed(shape, record), bits)

    def test_8_deep(self):
        shape, record, bits = ("num", 64, -FAR, -FAR + 2 ** 64 - 1), -FAR + 5, written(5, 64)
        for deep in range(7):
            shape, record, bits = ("rows", 8, shape), [record] * 2, written(2, 8) + bits * 2
        self.assert_packs(shape, record, bits)
        self.assert_fits_not(shape, [record[0], record[0][:1] + [record]])


if __name__ == "__main__":
    unittest.main()
