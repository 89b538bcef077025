"""Rows of records: packed one behind the other, read back, and read in pieces."""

import copy
import inspect
import itertools
import random
import unittest

from bitpack import streams
from bitpack.errors import BadRecord, Left, NoBits, PackError, Short, TooWide, Wrong
from bitpack.packing import packed
from bitpack.shapes import least_bits, most_bits
from bitpack.streams import Stream, packed_all, unpacked_all
from small import (
    BIT, MIXED, ONCE, SMALL, THREE, WITHOUT_BITS, Checks, Words, all_bits, lists_in, made_pairs, made_record,
    records_of, scribble,
)

WITH_BITS = [shape for shape in SMALL + [MIXED] if any(bits for _, bits in records_of(shape))]

# Two things of which the second one may be wrong, ended too early and of several lengths.
PAIR = ("group", [("maybe", BIT), THREE])
PAIRS = [[[], 4], [[1], 0], [[], 1], [[0], 4]]
PAIRS_BITS = [0, 1, 0, 0, 1, 1, 0, 0, 0, 0, 0, 0, 1, 1, 0, 1, 0, 0]


def some_records(shape, many):
    """So many records of a small shape, spread over all of them, and their bits one behind the other."""
    ones = records_of(shape)
    chosen = [ones[place * 7 % len(ones)] for place in range(many)]
    return [record for record, _ in chosen], [bit for _, bits in chosen for bit in bits]


def pieces_of(bits, cuts):
    """The bits in pieces, cut at these places."""
    ends = [0, *sorted(cuts), len(bits)]
    return [bits[begin:end] for begin, end in zip(ends, ends[1:])]


class StreamChecks(Checks):
    def assert_takes(self, stream, bits, records, waiting, seen):
        """The stream takes a piece: the records it gives, and how it stands behind the piece."""
        before = list(bits)
        self.assert_same(stream.take(bits), records)
        self.assert_same(bits, before)
        self.assert_stands(stream, waiting, seen)

    def assert_stands(self, stream, waiting, seen):
        self.assert_same((stream.waiting(), stream.seen()), (waiting, seen))

    def assert_takes_not(self, stream, bits):
        """The stream refuses a piece and stands as it did."""
        stands = stream.waiting(), stream.seen()
        self.assert_refused(Wrong, stream.take, bits)
        self.assert_stands(stream, *stands)


class PackedAllTest(Checks):
    def test_is_defined_in_streams(self):
        self.assert_defined_in(streams, packed_all=["shape", "records"], unpacked_all=["shape", "bits"])

    def test_no_records(self):
        for shape in (BIT, THREE, PAIR, MIXED, ("maybe", ("pad", 0))):
            self.assert_same(packed_all(shape, []), [])

    def test_one_and_several(self):
        self.assert_same(packed_all(THREE, [4]), [1, 0, 0])
        self.assert_same(packed_all(THREE, [4, 0, 3]), [1, 0, 0, 0, 0, 0, 0, 1, 1])
        self.assert_same(packed_all(PAIR, PAIRS), PAIRS_BITS)
        self.assert_same(packed_all(("pad", 2), [None] * 3), [0] * 6)
        self.assert_same(packed_all(BIT, [0, 1] * 300), [0, 1] * 300)

    def test_records_of_the_small_shapes(self):
        for shape in WITH_BITS:
            for many in (1, 2, 5):
                records, bits = some_records(shape, many)
                before = copy.deepcopy((shape, records))
                self.assert_same(packed_all(shape, records), bits)
                self.assert_same((shape, records), before)

    def test_bad_record_wherever_it_is(self):
        for wrong in (5, -1, True, None, [], [1], "1", (1,)):
            for ahead, behind in itertools.product(([], [1], [1, 2, 3]), repeat=2):
                self.assert_refused(BadRecord, packed_all, THREE, ahead + [wrong] + behind)
        self.assert_refused(BadRecord, packed_all, PAIR, PAIRS + [[[True], 4]])
        self.assert_refused(BadRecord, packed_all, PAIR, [[[1, 1], 4]] + PAIRS)

    def test_no_bits_ahead_of_all_else(self):
        for shape, own in WITHOUT_BITS:
            for record in (own, "wrong", None, True, [[]], 77):
                for records in ([], [record], [record, record], [record, "wrong"]):
                    self.assert_refused(NoBits, packed_all, shape, records)

    def test_the_list_is_a_new_one(self):
        for records in ([], PAIRS[:1], PAIRS):
            bits = packed_all(PAIR, records)
            scribble(bits)
            self.assert_same(packed_all(PAIR, records), PAIRS_BITS[:{0: 0, 1: 4, 4: 18}[len(records)]])


class UnpackedAllTest(Checks):
    def assert_unpacks(self, shape, bits, records):
        before = copy.deepcopy((shape, bits))
        self.assert_same(unpacked_all(shape, bits), records)
        self.assert_same((shape, bits), before)

    def test_no_bits_at_all(self):
        for shape in (BIT, THREE, PAIR, MIXED, ("maybe", ("pad", 0))):
            self.assert_unpacks(shape, [], [])

    def test_one_and_several(self):
        self.assert_unpacks(THREE, [1, 0, 0], [4])
        self.assert_unpacks(THREE, [1, 0, 0, 0, 0, 0, 0, 1, 1], [4, 0, 3])
        self.assert_unpacks(PAIR, PAIRS_BITS, PAIRS)
        self.assert_unpacks(("pad", 2), [0] * 6, [None] * 3)

    def test_bits_behind_whole_records_that_begin_none(self):
        for ahead in ([], [1, 0, 0], [1, 0, 0, 0, 1, 1]):
            for behind in ([1, 1], [1, 1, 0], [1, 0, 1], [1, 1, 0, 0, 0, 0]):
                self.assert_refused(Wrong, unpacked_all, THREE, ahead + behind)
        for behind in ([0, 1, 1], [1, 0, 1, 1, 1], [0, 1, 0, 1, 0, 0, 0, 0]):
            self.assert_refused(Wrong, unpacked_all, PAIR, PAIRS_BITS + behind)
        self.assert_refused(Wrong, unpacked_all, ("pad", 2), [0, 0, 1])

    def test_bits_behind_whole_records_that_begin_one_that_is_not_whole(self):
        for ahead in ([], [1, 0, 0], [1, 0, 0, 0, 1, 1]):
            for behind in ([0], [1], [0, 0], [0, 1], [1, 0]):
                self.assert_refused(Short, unpacked_all, THREE, ahead + behind)
        for behind in ([0], [1], [1, 1], [1, 0, 1], [0, 1, 0]):
            self.assert_refused(Short, unpacked_all, PAIR, PAIRS_BITS + behind)
        self.assert_refused(Short, unpacked_all, ("pad", 2), [0, 0, 0])

    def test_no_bits_ahead_of_all_else(self):
        for shape, _ in WITHOUT_BITS:
            for bits in all_bits(3):
                self.assert_refused(NoBits, unpacked_all, shape, bits)

    def test_all_bits_of_the_small_shapes(self):
        for shape in WITH_BITS:
            words = Words(shape)
            for bits in all_bits(6):
                with self.subTest(shape=shape, bits=bits):
                    records, behind, told = words.row(bits)
                    if not behind:
                        self.assert_unpacks(shape, bits, records)
                    else:
                        self.assert_refused(Wrong if told == "wrong" else Short, unpacked_all, shape, bits)

    def test_there_and_back(self):
        for shape in WITH_BITS:
            for many in (1, 2, 5):
                records, bits = some_records(shape, many)
                self.assert_unpacks(shape, bits, records)
                self.assert_same(packed_all(shape, unpacked_all(shape, bits)), bits)

    def test_made_shapes(self):
        chance = random.Random(21)
        for shape, record in made_pairs(20, 150):
            if least_bits(shape):
                records = [record] + [made_record(chance, shape) for _ in range(3)]
                self.assert_unpacks(shape, packed_all(shape, records), records)

    def test_many_records(self):
        records = [[[1], place % 5] for place in range(20000)]
        self.assertEqual(unpacked_all(PAIR, packed_all(PAIR, records)), records)

    def test_the_lists_are_new_ones(self):
        for shape in WITH_BITS:
            for many in (1, 3):
                records, bits = some_records(shape, many)
                scribble(unpacked_all(shape, bits))
                self.assert_same(unpacked_all(shape, bits), records)
                given = unpacked_all(shape, bits)
                scribble(given[0])
                self.assert_same(given[1:], records[1:])


class StreamTest(StreamChecks):
    def test_is_defined_in_streams(self):
        self.assertEqual(Stream.__module__, "bitpack.streams")
        for name, arguments in (
            ("__init__", ["self", "shape"]), ("take", ["self", "bits"]), ("waiting", ["self"]), ("seen", ["self"]),
        ):
            self.assertEqual(list(inspect.signature(Stream.__dict__[name]).parameters), arguments)

    def test_no_bits(self):
        for shape, _ in WITHOUT_BITS:
            self.assert_refused(NoBits, Stream, shape)
        for shape in WITH_BITS:
            self.assert_stands(Stream(shape), [], 0)

    def test_pieces_of_no_bit(self):
        stream = Stream(PAIR)
        self.assert_takes(stream, [], [], [], 0)
        self.assert_takes(stream, [], [], [], 0)
        self.assert_takes(stream, [0, 1], [], [0, 1], 0)
        self.assert_takes(stream, [], [], [0, 1], 0)
        self.assert_takes(stream, [0, 0], [[[], 4]], [], 4)
        self.assert_takes(stream, [], [], [], 4)

    def test_pieces_of_one_bit(self):
        stream = Stream(PAIR)
        for bit, records, waiting, seen in (
            (0, [], [0], 0), (1, [], [0, 1], 0), (0, [], [0, 1, 0], 0), (0, [[[], 4]], [], 4),
            (1, [], [1], 4), (1, [], [1, 1], 4), (0, [], [1, 1, 0], 4), (1, [], [1, 1, 0, 1], 4),
            (1, [[[1], 3]], [], 9), (0, [], [0], 9),
        ):
            self.assert_takes(stream, [bit], records, waiting, seen)

    def test_all_at_once(self):
        self.assert_takes(Stream(PAIR), PAIRS_BITS, PAIRS, [], 18)
        self.assert_takes(Stream(PAIR), PAIRS_BITS + [1, 0], PAIRS, [1, 0], 18)
        self.assert_takes(Stream(THREE), [1, 0, 0], [4], [], 3)

    def test_a_piece_that_ends_within_a_record_and_one_that_ends_several(self):
        stream = Stream(THREE)
        self.assert_takes(stream, [1, 0], [], [1, 0], 0)
        self.assert_takes(stream, [0, 0, 0, 1, 0, 1, 0, 1], [4, 1, 2], [1], 9)
        self.assert_takes(stream, [0, 0], [4], [], 12)
        self.assert_takes(stream, [0, 0, 0, 0, 1, 1, 0], [0, 3], [0], 18)

    def test_a_refused_piece_and_a_good_one_behind_it(self):
        stream = Stream(THREE)
        self.assert_takes_not(stream, [1, 1])
        self.assert_takes_not(stream, [1, 0, 0, 1, 1])
        self.assert_takes(stream, [1, 0, 0, 1], [4], [1], 3)
        self.assert_takes_not(stream, [1])
        self.assert_takes_not(stream, [0, 1])
        self.assert_takes_not(stream, [0, 0, 0, 1, 1, 1, 0, 1])
        self.assert_takes(stream, [], [], [1], 3)
        self.assert_takes(stream, [0], [], [1, 0], 3)
        self.assert_takes_not(stream, [1, 0, 0, 0])
        self.assert_takes(stream, [0, 0, 1, 1, 0, 1], [4, 3], [0, 1], 9)

    def test_a_pad_with_a_1_within_it(self):
        stream = Stream(("pad", 3))
        self.assert_takes(stream, [0, 0], [], [0, 0], 0)
        self.assert_takes_not(stream, [1])
        self.assert_takes_not(stream, [0, 0, 1])
        self.assert_takes(stream, [0, 0, 0, 0], [None, None], [], 6)

    def test_two_beside_each_other(self):
        one, other = Stream(THREE), Stream(THREE)
        self.assert_takes(one, [1, 0], [], [1, 0], 0)
        self.assert_stands(other, [], 0)
        self.assert_takes(other, [0, 1, 1, 0], [3], [0], 3)
        self.assert_takes_not(one, [1])
        self.assert_stands(other, [0], 3)
        self.assert_takes(one, [0], [4], [], 3)
        third = Stream(BIT)
        self.assert_takes(third, [1, 0], [1, 0], [], 2)
        self.assert_takes(other, [1, 1], [3], [], 6)
        self.assert_stands(one, [], 3)

    def test_pieces_that_are_changed_afterwards(self):
        stream = Stream(THREE)
        for piece, records in (([1], []), ([0, 0, 1, 0], [4]), ([], []), ([0], [4])):
            self.assert_same(stream.take(piece), records)
            waiting = stream.waiting()
            piece.reverse()
            piece.extend([1, 1, 1])
            self.assert_same(stream.waiting(), waiting)

    def test_lists_given_out_that_are_changed_afterwards(self):
        stream = Stream(PAIR)
        scribble(stream.waiting())
        scribble(stream.take([]))
        scribble(stream.take([1, 0, 1]))
        scribble(stream.waiting())
        self.assert_stands(stream, [1, 0, 1], 0)
        given = stream.take([0, 0, 1])
        self.assert_same(given, [[[0], 4]])
        scribble(given)
        self.assert_takes(stream, [0, 1, 0, 0, 1], [[[0], 4]], [1], 10)

    def test_what_was_given_stays(self):
        stream = Stream(PAIR)
        first, waiting = stream.take([1, 0, 1, 0, 0, 1]), stream.waiting()
        second = stream.take([0, 1, 0, 0])
        stream.take([0, 0, 0, 0, 0, 1])
        self.assert_same((first, waiting, second), ([[[0], 4]], [1], [[[0], 4]]))

    def test_its_own_waiting_bits_as_a_piece(self):
        stream = Stream(THREE)
        self.assert_takes(stream, [0, 1], [], [0, 1], 0)
        self.assert_takes(stream, stream.waiting(), [2], [1], 3)

    def test_every_cut_of_some_rows(self):
        for shape, bits in ((PAIR, PAIRS_BITS), (THREE, [1, 0, 0, 0, 1, 1, 0, 1, 0, 1]), (BIT, [1, 0, 1, 1, 0, 0])):
            words = Words(shape)
            for many in (1, 2, 3):
                for cuts in itertools.combinations_with_replacement(range(len(bits) + 1), many):
                    self.assert_row(words, Stream(shape), pieces_of(bits, cuts))

    def test_pieces_of_one_bit_of_the_small_shapes(self):
        for shape in ONCE + [MIXED]:
            if shape in WITH_BITS:
                _, bits = some_records(shape, 4)
                self.assert_row(Words(shape), Stream(shape), [[bit] for bit in bits])

    def test_pieces_by_chance_some_of_them_refused(self):
        chance = random.Random(33)
        for shape in [shape for shape in ONCE if shape in WITH_BITS] + [MIXED] * 20:
            words, stream = Words(shape), Stream(shape)
            pieces = [[chance.randint(0, 1) for _ in range(chance.randint(0, 5))] for _ in range(25)]
            self.assert_row(words, stream, pieces)

    def assert_row(self, words, stream, pieces):
        """Piece by piece the stream does what the words tell of all that has come and was not refused."""
        come, given = [], []
        for piece in pieces:
            records, waiting, told = words.row(come + piece)
            if told == "wrong":
                self.assert_takes_not(stream, piece)
            else:
                come = come + piece
                self.assert_takes(stream, piece, records[len(given):], waiting, len(come) - len(waiting))
                given = records

    def test_made_shapes(self):
        chance = random.Random(41)
        for shape, record in made_pairs(40, 80):
            if least_bits(shape):
                before = copy.deepcopy(shape)
                records = [record] + [made_record(chance, shape) for _ in range(3)]
                bits = packed_all(shape, records)
                cuts = [chance.randint(0, len(bits)) for _ in range(6)]
                stream, given = Stream(shape), []
                for piece in pieces_of(bits, cuts):
                    given += stream.take(piece)
                    self.assertEqual(stream.seen(), len(packed_all(shape, given)))
                    self.assertLess(len(stream.waiting()), most_bits(shape))
                self.assert_same(given, records)
                self.assert_stands(stream, [], len(bits))
                self.assert_same(shape, before)

    def test_no_list_is_one_that_was_handed_in(self):
        for shape in WITH_BITS:
            _, bits = some_records(shape, 2)
            stream = Stream(shape)
            handed = list(lists_in((shape, bits)))
            for given in (stream.take(bits), stream.waiting(), stream.take(bits[:1]), stream.waiting()):
                for each in lists_in(given):
                    self.assertFalse(any(each is other for other in handed), shape)

    def test_somewhat_beyond_the_limits_ends(self):
        for shape in (("pad", -1), ("num", -1, 0, 0), ("rows", -1, BIT), ("one", 0, [])):
            self.assert_refused(NoBits, Stream, shape)
            self.assert_refused(NoBits, unpacked_all, shape, [0, 0])
            self.assert_refused(NoBits, packed_all, shape, [])
        self.assert_same(unpacked_all(("one", 1, []), []), [])
        self.assert_same(unpacked_all(("pad", 66), [0] * 132), [None, None])
        self.assert_same(unpacked_all(("group", [BIT] * 21), [1] * 42), [[1] * 21, [1] * 21])


class RefusalsTest(Checks):
    def test_each_refusal_is_none_of_the_other_five(self):
        six = (TooWide, BadRecord, Short, Wrong, Left, NoBits)
        for error, function, asked in (
            (NoBits, packed_all, (("pad", 0), [])), (BadRecord, packed_all, (THREE, [5])),
            (BadRecord, packed, (THREE, 5)), (NoBits, unpacked_all, (("pad", 0), [])),
            (Wrong, unpacked_all, (THREE, [1, 1])), (Short, unpacked_all, (THREE, [1])),
            (NoBits, Stream, (("pad", 0),)), (Wrong, Stream(THREE).take, ([1, 1],)),
        ):
            with self.assertRaises(ValueError) as caught:
                function(*asked)
            self.assertIsInstance(caught.exception, PackError)
            self.assertEqual([other for other in six if isinstance(caught.exception, other)], [error])


if __name__ == "__main__":
    unittest.main()
