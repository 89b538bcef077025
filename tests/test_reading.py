"""Reading: which record bits are, where else they are refused, and which record they begin."""

import copy
import unittest

from bitpack import reading
from bitpack.errors import BadRecord, Left, NoBits, PackError, Short, TooWide, Wrong
from bitpack.packing import fits, packed
from bitpack.reading import begun, looked, unpacked
from small import (
    BIT, MIXED, ONCE, SMALL, THREE, TWICE, WITHOUT_BITS, Checks, Words, all_bits, lists_in, made_pairs, records_of,
    scribble, written,
)

FAR = 10 ** 20
REFUSALS = {"short": Short, "left": Left, "wrong": Wrong}


class ReadingChecks(Checks):
    def assert_looked(self, shape, bits, told):
        """The bits are what is told, to looked and to unpacked."""
        before = copy.deepcopy((shape, bits))
        self.assert_same(looked(shape, bits), told)
        if told[0] == "read":
            self.assert_same(unpacked(shape, bits), told[1])
            self.assert_same(packed(shape, told[1]), bits)
        else:
            self.assert_refused(REFUSALS[told[0]], unpacked, shape, bits)
        self.assert_same((shape, bits), before)

    def assert_begun(self, shape, bits, told):
        before = copy.deepcopy((shape, bits))
        self.assert_same(begun(shape, bits), told)
        self.assert_same((shape, bits), before)
        for record in told:
            own = packed(shape, record)
            self.assertEqual(own[:len(bits)], bits)
            self.assertNotIn(1, own[len(bits):])


class LookedTest(ReadingChecks):
    def test_is_defined_in_reading(self):
        asked = ["shape", "bits"]
        self.assert_defined_in(reading, looked=asked, unpacked=asked, begun=asked)

    def test_the_first_instance_of_point_8(self):
        self.assert_looked(THREE, [1, 1, 0], ("wrong", 1))
        self.assert_looked(THREE, [1, 1], ("wrong", 1))
        self.assert_looked(THREE, [1, 1, 1, 1, 1], ("wrong", 1))
        self.assert_looked(THREE, [1, 0, 1], ("wrong", 2))
        self.assert_looked(THREE, [1, 0, 0], ("read", 4))
        self.assert_looked(THREE, [1, 0], ("short", 2))
        self.assert_looked(THREE, [1], ("short", 1))
        self.assert_looked(THREE, [], ("short", 0))
        self.assert_looked(THREE, [1, 0, 0, 1], ("left", 3))
        self.assert_looked(THREE, [0, 1, 1, 0, 0], ("left", 3))

    def test_the_second_instance_of_point_8(self):
        for width in (1, 2, 5, 64):
            shape = ("pad", width)
            for place in range(width):
                for behind in ([], [0], [1], [0] * width, [1] * 5):
                    self.assert_looked(shape, [0] * place + [1] + behind, ("wrong", place))
                self.assert_looked(shape, [0] * place, ("short", place))
            self.assert_looked(shape, [0] * width, ("read", None))
            for behind in ([0], [1], [1, 0]):
                self.assert_looked(shape, [0] * width + behind, ("left", width))

    def test_shapes_that_have_a_record_without_bits(self):
        for shape, record in WITHOUT_BITS:
            self.assert_looked(shape, [], ("read", record))
            for bits in all_bits(4):
                if bits:
                    self.assert_looked(shape, bits, ("left", 0))

    def test_num(self):
        self.assert_looked(("num", 4, -3, 5), [0, 0, 0, 0], ("read", -3))
        self.assert_looked(("num", 4, -3, 5), [1, 0, 0, 0], ("read", 5))
        self.assert_looked(("num", 4, -3, 5), [1, 0, 0, 1], ("wrong", 3))
        self.assert_looked(("num", 4, -3, 5), [1, 1, 0, 0], ("wrong", 1))
        self.assert_looked(("num", 3, 6, 6), [0, 0, 0], ("read", 6))
        self.assert_looked(("num", 3, 6, 6), [0, 1, 0], ("wrong", 1))
        self.assert_looked(("num", 64, -FAR, -FAR + 2 ** 64 - 1), [1] * 64, ("read", -FAR + 2 ** 64 - 1))
        self.assert_looked(("num", 64, FAR - 2 ** 64 + 1, FAR), [0] * 64, ("read", FAR - 2 ** 64 + 1))
        self.assert_looked(("num", 64, 0, 2 ** 64 - 2), [1] * 64, ("wrong", 63))

    def test_maybe(self):
        self.assert_looked(("maybe", THREE), [], ("short", 0))
        self.assert_looked(("maybe", THREE), [0], ("read", []))
        self.assert_looked(("maybe", THREE), [0, 1], ("left", 1))
        self.assert_looked(("maybe", THREE), [1], ("short", 1))
        self.assert_looked(("maybe", THREE), [1, 1, 0, 0], ("read", [4]))
        self.assert_looked(("maybe", THREE), [1, 1, 1, 0], ("wrong", 2))
        self.assert_looked(("maybe", THREE), [1, 1, 0, 1], ("wrong", 3))
        self.assert_looked(("maybe", THREE), [1, 0, 1, 1], ("read", [3]))
        self.assert_looked(("maybe", THREE), [1, 0, 1, 1, 0], ("left", 4))

    def test_rows(self):
        shape = ("rows", 2, THREE)
        self.assert_looked(shape, [], ("short", 0))
        self.assert_looked(shape, [0], ("short", 1))
        self.assert_looked(shape, [0, 0], ("read", []))
        self.assert_looked(shape, [0, 0, 1], ("left", 2))
        self.assert_looked(shape, [1, 0, 0, 0, 1], ("short", 5))
        self.assert_looked(shape, [1, 0, 0, 0, 1, 1, 0, 0], ("read", [1, 4]))
        self.assert_looked(shape, [1, 0, 0, 0, 1, 1, 1, 0], ("wrong", 6))
        self.assert_looked(shape, [1, 0, 0, 0, 1, 1, 0, 0, 0], ("left", 8))
        self.assert_looked(("rows", 3, ("pad", 0)), [1, 0, 1], ("read", [None] * 5))
        self.assert_looked(("rows", 8, BIT), [1] * 263, ("read", [1] * 255))
        self.assert_looked(("rows", 8, BIT), [1] * 262, ("short", 262))
        self.assert_looked(("rows", 8, BIT), [1] * 264, ("left", 263))

    def test_group(self):
        shape = ("group", [BIT, ("pad", 2), THREE])
        self.assert_looked(shape, [1, 0, 0, 0, 1, 1], ("read", [1, None, 3]))
        self.assert_looked(shape, [1, 0, 0], ("short", 3))
        self.assert_looked(shape, [1, 0, 1, 0, 1, 1], ("wrong", 2))
        self.assert_looked(shape, [1, 0, 0, 1, 0, 1], ("wrong", 5))
        self.assert_looked(shape, [1, 0, 0, 0, 1, 1, 1], ("left", 6))

    def test_one(self):
        shape = ("one", 3, [("pad", 2), THREE, BIT, ("group", []), BIT])
        self.assert_looked(shape, [0, 0, 0, 0, 0], ("read", (0, None)))
        self.assert_looked(shape, [0, 0, 1, 1, 0, 0], ("read", (1, 4)))
        self.assert_looked(shape, [0, 1, 1], ("read", (3, [])))
        self.assert_looked(shape, [0, 1, 1, 0], ("left", 3))
        self.assert_looked(shape, [1, 0, 0, 1], ("read", (4, 1)))
        self.assert_looked(shape, [1, 0, 0], ("short", 3))
        self.assert_looked(shape, [1, 0, 1, 1], ("wrong", 2))
        self.assert_looked(shape, [1, 1], ("wrong", 1))
        self.assert_looked(shape, [0, 0, 1, 1, 1, 0], ("wrong", 4))
        self.assert_looked(("one", 2, [BIT]), [1, 0, 1], ("wrong", 0))
        self.assert_looked(("one", 0, [BIT]), [1], ("read", (0, 1)))

    def test_kinds_within_kinds(self):
        shape = ("rows", 2, ("one", 1, [("maybe", THREE), ("group", [("pad", 1), BIT])]))
        self.assert_looked(shape, [1, 0, 0, 1, 1, 0, 0, 1, 0, 1], ("read", [(0, [4]), (1, [None, 1])]))
        self.assert_looked(shape, [1, 0, 0, 1, 1, 0, 0, 1, 1, 1], ("wrong", 8))
        self.assert_looked(shape, [1, 0, 0, 1, 1, 1, 0, 1, 0, 1], ("wrong", 5))
        self.assert_looked(shape, [1, 0, 0, 0, 1, 0], ("short", 6))
        self.assert_looked(shape, [1, 0, 0, 0, 1, 0, 0, 1], ("left", 7))


class WordsTest(ReadingChecks):
    def test_all_bits_of_the_small_shapes(self):
        for shapes, most_long in ((ONCE, 8), (TWICE, 6), ([MIXED], 11)):
            for shape in shapes:
                words = Words(shape)
                for bits in all_bits(most_long):
                    with self.subTest(shape=shape, bits=bits):
                        self.assert_looked(shape, bits, words.looked(bits))
                        found = words.begun(bits)
                        self.assertLessEqual(len(found), 1)
                        self.assert_begun(shape, bits, found)

    def test_cut_and_turned_and_longer_bits_of_the_small_shapes(self):
        for shape in ONCE + [MIXED]:
            words = Words(shape)
            for _, bits in words.records[::max(1, len(words.records) // 25)]:
                changed = [bits[:long] for long in range(len(bits))] + [bits + [0], bits + [1], bits + bits]
                for at, bit in enumerate(bits):
                    turned = bits[:at] + [1 - bit] + bits[at + 1:]
                    changed += [turned, turned + [0], turned + [1]]
                for other in changed:
                    with self.subTest(shape=shape, bits=other):
                        self.assert_looked(shape, other, words.looked(other))
                        self.assert_begun(shape, other, words.begun(other))


class ThereAndBackTest(ReadingChecks):
    def test_what_is_packed_is_read_as_the_same_record(self):
        for shape in SMALL + [MIXED]:
            for record, bits in records_of(shape):
                self.assert_same(looked(shape, packed(shape, record)), ("read", record))
                self.assert_same(packed(shape, unpacked(shape, bits)), bits)

    def test_made_shapes(self):
        for shape, record in made_pairs(9, 500):
            self.assert_looked(shape, packed(shape, record), ("read", record))

    def test_made_shapes_cut_short_and_left_over(self):
        for shape, record in made_pairs(10, 150):
            bits = packed(shape, record)
            for long in range(0, len(bits), 1 + len(bits) // 60):
                self.assert_looked(shape, bits[:long], ("short", long))
            for behind in ([0], [1], [1, 0, 1]):
                self.assert_looked(shape, bits + behind, ("left", len(bits)))

    def test_made_shapes_with_one_bit_turned(self):
        for shape, record in made_pairs(11, 150):
            bits = packed(shape, record)
            for at in range(0, len(bits), 1 + len(bits) // 40):
                turned = bits[:at] + [1 - bits[at]] + bits[at + 1:]
                told = looked(shape, turned)
                self.assert_looked(shape, turned, told)
                if told[0] == "read":
                    self.assertTrue(fits(shape, told[1]))
                elif told[0] == "short":
                    self.assertEqual(told[1], len(turned))
                    self.assertEqual(len(begun(shape, turned)), 1)
                elif told[0] == "left":
                    self.assert_looked(shape, turned[:told[1]], ("read", begun(shape, turned[:told[1]])[0]))
                else:
                    self.assertGreaterEqual(told[1], at)
                    self.assert_looked(shape, turned[:told[1]], ("short", told[1]))
                    self.assertEqual(len(begun(shape, turned[:told[1]])), 1)
                    self.assert_begun(shape, turned[:told[1] + 1], [])

    def test_8_deep(self):
        shape, record = ("num", 64, -FAR, -FAR + 2 ** 63), -FAR + 2 ** 63
        for _ in range(7):
            shape, record = ("rows", 8, shape), [record] * 2
        bits = packed(shape, record)
        self.assert_looked(shape, bits, ("read", record))
        self.assert_looked(shape, bits[:-1], ("short", len(bits) - 1))
        self.assert_looked(shape, bits[:-1] + [1], ("wrong", len(bits) - 1))
        self.assert_looked(shape, bits + [1], ("left", len(bits)))


class UnpackedTest(ReadingChecks):
    def test_each_refusal_is_none_of_the_other_five(self):
        six = (TooWide, BadRecord, Short, Wrong, Left, NoBits)
        for error, bits in ((Short, [1, 0]), (Left, [1, 0, 0, 0]), (Wrong, [1, 1, 0])):
            with self.assertRaises(ValueError) as caught:
                unpacked(THREE, bits)
            self.assertIsInstance(caught.exception, PackError)
            self.assertEqual([other for other in six if isinstance(caught.exception, other)], [error])

    def test_each_list_is_a_new_one(self):
        for shape in ONCE + [MIXED]:
            for record, bits in records_of(shape)[-3:]:
                scribble(unpacked(shape, bits))
                self.assert_same(unpacked(shape, bits), record)
                scribble(looked(shape, bits))
                self.assert_same(looked(shape, bits), ("read", record))
                scribble(begun(shape, bits))
                self.assert_same(begun(shape, bits), [record])

    def test_no_list_is_one_that_was_handed_in(self):
        for shape in ONCE + [MIXED]:
            for _, bits in records_of(shape)[-3:]:
                for given in (unpacked(shape, bits), begun(shape, bits)):
                    for each in lists_in(given):
                        self.assertFalse(any(each is other for other in lists_in((shape, bits))), (shape, bits))


class BegunTest(ReadingChecks):
    def test_num(self):
        self.assert_begun(THREE, [], [0])
        self.assert_begun(THREE, [0], [0])
        self.assert_begun(THREE, [0, 1], [2])
        self.assert_begun(THREE, [1], [4])
        self.assert_begun(THREE, [1, 0, 0], [4])
        self.assert_begun(THREE, [1, 1], [])
        self.assert_begun(THREE, [1, 0, 1], [])
        self.assert_begun(THREE, [1, 0, 0, 0], [])
        self.assert_begun(THREE, [0, 0, 0, 0, 0, 0], [])
        self.assert_begun(("num", 64, -FAR, 0 - FAR + 2 ** 63), [1], [-FAR + 2 ** 63])

    def test_pad(self):
        self.assert_begun(("pad", 2), [], [None])
        self.assert_begun(("pad", 2), [0, 0], [None])
        self.assert_begun(("pad", 2), [0, 1], [])
        self.assert_begun(("pad", 2), [0, 0, 0], [])

    def test_maybe_and_rows(self):
        self.assert_begun(("maybe", THREE), [], [[]])
        self.assert_begun(("maybe", THREE), [0], [[]])
        self.assert_begun(("maybe", THREE), [1], [[0]])
        self.assert_begun(("maybe", THREE), [1, 1], [[4]])
        self.assert_begun(("maybe", THREE), [0, 0], [])
        self.assert_begun(("rows", 2, THREE), [], [[]])
        self.assert_begun(("rows", 2, THREE), [1], [[0, 0]])
        self.assert_begun(("rows", 2, THREE), [1, 1, 0, 0, 1, 1], [[1, 4, 0]])
        self.assert_begun(("rows", 2, THREE), [1, 1, 0, 0, 1, 1, 1], [])
        self.assert_begun(("rows", 2, THREE), [0, 0, 0], [])

    def test_group_and_one(self):
        self.assert_begun(("group", [BIT, ("pad", 2), THREE]), [1], [[1, None, 0]])
        self.assert_begun(("group", [BIT, ("pad", 2), THREE]), [1, 0, 0, 1], [[1, None, 4]])
        self.assert_begun(("group", [BIT, ("pad", 2), THREE]), [1, 1], [])
        self.assert_begun(("one", 2, [BIT, ("pad", 2), THREE]), [], [(0, 0)])
        self.assert_begun(("one", 2, [BIT, ("pad", 2), THREE]), [1], [(2, 0)])
        self.assert_begun(("one", 2, [BIT, ("pad", 2), THREE]), [0, 1, 0], [(1, None)])
        self.assert_begun(("one", 2, [BIT, ("pad", 2), THREE]), [1, 1], [])

    def test_shapes_that_have_a_record_without_bits(self):
        for shape, record in WITHOUT_BITS:
            self.assert_begun(shape, [], [record])
            for bits in ([0], [1], [0, 0], [0, 1]):
                self.assert_begun(shape, bits, [])

    def test_made_shapes_cut_at_each_place(self):
        for shape, record in made_pairs(12, 150):
            bits = packed(shape, record)
            for long in range(0, len(bits), 1 + len(bits) // 40):
                found = begun(shape, bits[:long])
                self.assertEqual(len(found), 1)
                self.assert_begun(shape, bits[:long], found)
            self.assert_begun(shape, bits, [record])
            for behind in ([0], [1], [0, 0, 0]):
                self.assert_begun(shape, bits + behind, [])

    def test_a_shape_of_which_the_most_bits_are_very_many(self):
        shape, found = ("pad", 64), None
        for deep in range(7):
            shape, found = ("rows", 8, shape), [found] + [None if deep == 0 else []] * 254
        self.assert_begun(shape, [1] * 56, [found])
        self.assert_begun(shape, [], [[]])
        self.assert_begun(shape, written(1, 8) * 2, [[[[]]]])

    def test_somewhat_beyond_the_limits_raises_no_error(self):
        deep = BIT
        for _ in range(12):
            deep = ("maybe", deep)
        for shape in (
            ("num", 65, 0, 2 ** 64), ("num", 2, 0, 9), ("num", 2, 1, 0), ("num", -1, 0, 0), ("pad", 66), ("pad", -1),
            ("rows", 9, BIT), ("rows", -1, BIT), ("group", [BIT] * 22), ("one", 9, [BIT]), ("one", 8, [BIT] * 18),
            ("one", 0, [BIT, BIT]), ("one", 0, []), ("one", 1, []), ("group", [BIT, ("one", 0, [])]), deep,
        ):
            for bits in all_bits(4):
                self.assertIn(looked(shape, bits)[0], ("read", "short", "left", "wrong"))
                self.assertIn(len(begun(shape, bits)), (0, 1))


if __name__ == "__main__":
    unittest.main()
