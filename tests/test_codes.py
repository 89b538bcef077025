"""Numbers as bits: bits_of, number_of and code_at."""

import unittest

from bitpack import codes
from bitpack.codes import bits_of, code_at, number_of
from bitpack.errors import TooWide
from small import all_bits, written


def code_by_point_8(bits, place, width, most):
    """What code_at gives, straight from the words of point 8: by the bits of every number."""
    come = bits[place:]
    records = [written(number, width) for number in range(most + 1)]
    for number, record in enumerate(records):
        if come[:width] == record:
            return ("read", number, place + width)
    for long in range(len(come), -1, -1):
        if any(record[:long] == come[:long] for record in records):
            return ("short" if long == len(come) else "wrong", place + long)


class Checks(unittest.TestCase):
    def assert_whole_bits(self, bits):
        self.assertIs(type(bits), list)
        for bit in bits:
            self.assertIs(type(bit), int)
            self.assertIn(bit, (0, 1))

    def assert_told(self, told, expected):
        self.assertEqual(told, expected)
        self.assertIs(type(told), tuple)
        self.assertIs(type(told[0]), str)
        for number in told[1:]:
            self.assertIs(type(number), int)

    def assert_too_wide(self, number, width):
        with self.assertRaises(TooWide) as caught:
            bits_of(number, width)
        self.assertIs(type(caught.exception), TooWide)


class BitsOfTest(Checks):
    def test_is_defined_in_codes(self):
        for function in (bits_of, number_of, code_at):
            self.assertEqual(function.__module__, "bitpack.codes")
            self.assertIs(getattr(codes, function.__name__), function)

    def test_greatest_worth_first(self):
        self.assertEqual(bits_of(1, 4), [0, 0, 0, 1])
        self.assertEqual(bits_of(8, 4), [1, 0, 0, 0])
        self.assertEqual(bits_of(6, 4), [0, 1, 1, 0])
        self.assertEqual(bits_of(13, 4), [1, 1, 0, 1])

    def test_width_0(self):
        self.assertEqual(bits_of(0, 0), [])
        self.assert_too_wide(1, 0)
        self.assert_too_wide(-1, 0)

    def test_width_1(self):
        self.assertEqual(bits_of(0, 1), [0])
        self.assertEqual(bits_of(1, 1), [1])
        self.assert_too_wide(2, 1)
        self.assert_too_wide(-1, 1)

    def test_width_64(self):
        self.assertEqual(bits_of(0, 64), [0] * 64)
        self.assertEqual(bits_of(1, 64), [0] * 63 + [1])
        self.assertEqual(bits_of(2 ** 63, 64), [1] + [0] * 63)
        self.assertEqual(bits_of(2 ** 64 - 1, 64), [1] * 64)
        self.assert_too_wide(2 ** 64, 64)
        self.assert_too_wide(2 ** 64 + 1, 64)

    def test_edges_of_every_width(self):
        for width in range(65):
            for number in {0, 2 ** width - 1, 2 ** width // 2, 2 ** width // 3}:
                bits = bits_of(number, width)
                self.assertEqual(bits, written(number, width), (number, width))
                self.assertEqual(len(bits), width)
                self.assert_whole_bits(bits)
            self.assert_too_wide(2 ** width, width)
            self.assert_too_wide(-1, width)

    def test_far_too_great(self):
        for width in (0, 1, 8, 63, 64):
            for number in (2 ** 65, 2 ** 64 + 5, 10 ** 30, 2 ** 200):
                self.assert_too_wide(number, width)

    def test_below_nought(self):
        for width in (0, 1, 8, 64):
            for number in (-1, -2, -2 ** 63, -2 ** 64, -10 ** 30):
                self.assert_too_wide(number, width)

    def test_a_number_that_python_does_not_write_out(self):
        self.assert_too_wide(10 ** 20000, 64)
        self.assert_too_wide(-10 ** 20000, 64)

    def test_each_list_is_a_new_one(self):
        first = bits_of(5, 3)
        first.append(1)
        first[0] = 0
        self.assertEqual(bits_of(5, 3), [1, 0, 1])
        nothing = bits_of(0, 0)
        nothing.append(1)
        self.assertEqual(bits_of(0, 0), [])

    def test_somewhat_beyond_the_widths(self):
        self.assertEqual(bits_of(1, 66), [0] * 65 + [1])
        self.assertEqual(bits_of(0, -1), [])
        self.assert_too_wide(1, -1)


class NumberOfTest(Checks):
    def test_no_bits(self):
        self.assertEqual(number_of([]), 0)
        self.assertIs(type(number_of([])), int)

    def test_one_bit(self):
        self.assertEqual(number_of([0]), 0)
        self.assertEqual(number_of([1]), 1)

    def test_greatest_worth_first(self):
        self.assertEqual(number_of([1, 0]), 2)
        self.assertEqual(number_of([0, 1]), 1)
        self.assertEqual(number_of([1, 1, 0, 1]), 13)

    def test_noughts_ahead(self):
        self.assertEqual(number_of([0, 0, 0]), 0)
        self.assertEqual(number_of([0, 0, 1, 0]), 2)
        self.assertEqual(number_of([0] * 300 + [1, 0, 1]), 5)

    def test_many_hundred_bits(self):
        self.assertEqual(number_of([1] * 700), 2 ** 700 - 1)
        self.assertEqual(number_of([1] + [0] * 900), 2 ** 900)
        self.assertEqual(number_of([1, 0, 1] * 300), 5 * sum(8 ** place for place in range(300)))

    def test_every_short_list(self):
        for bits in all_bits(7):
            number = number_of(bits)
            self.assertEqual(number, int("0" + "".join(map(str, bits)), 2))
            self.assertIs(type(number), int)
            self.assertEqual(bits_of(number, len(bits)), bits)

    def test_the_list_stays(self):
        bits = [0, 1, 1, 0]
        self.assertEqual(number_of(bits), 6)
        self.assertEqual(bits, [0, 1, 1, 0])


class CodeAtTest(Checks):
    def test_the_instance_of_point_8(self):
        self.assert_told(code_at([1, 1, 0], 0, 3, 4), ("wrong", 1))
        self.assert_told(code_at([1, 1], 0, 3, 4), ("wrong", 1))
        self.assert_told(code_at([1, 0, 1], 0, 3, 4), ("wrong", 2))
        self.assert_told(code_at([1, 0, 0], 0, 3, 4), ("read", 4, 3))
        self.assert_told(code_at([0, 1, 1], 0, 3, 4), ("read", 3, 3))
        self.assert_told(code_at([1, 0], 0, 3, 4), ("short", 2))

    def test_place_0_in_the_middle_and_at_the_end(self):
        bits = [1, 0, 1, 1, 0]
        self.assert_told(code_at(bits, 0, 3, 7), ("read", 5, 3))
        self.assert_told(code_at(bits, 1, 3, 7), ("read", 3, 4))
        self.assert_told(code_at(bits, 2, 3, 7), ("read", 6, 5))
        self.assert_told(code_at(bits, 3, 3, 7), ("short", 5))
        self.assert_told(code_at(bits, 5, 3, 7), ("short", 5))
        self.assert_told(code_at([], 0, 1, 1), ("short", 0))

    def test_wrong_places_count_from_the_beginning_of_the_list(self):
        self.assert_told(code_at([0, 1, 1, 1, 0], 2, 3, 4), ("wrong", 3))
        self.assert_told(code_at([1, 1, 1, 0, 1, 1], 2, 3, 4), ("wrong", 4))
        self.assert_told(code_at([0, 1, 0, 1], 1, 2, 0), ("wrong", 1))

    def test_width_0(self):
        for bits in ([], [0], [1], [1, 0, 1]):
            for place in range(len(bits) + 1):
                self.assert_told(code_at(bits, place, 0, 0), ("read", 0, place))

    def test_most_0(self):
        self.assert_told(code_at([0, 0, 0], 0, 3, 0), ("read", 0, 3))
        self.assert_told(code_at([0, 0], 0, 3, 0), ("short", 2))
        self.assert_told(code_at([1, 0, 0], 0, 3, 0), ("wrong", 0))
        self.assert_told(code_at([0, 1, 0], 0, 3, 0), ("wrong", 1))
        self.assert_told(code_at([0, 0, 1], 0, 3, 0), ("wrong", 2))

    def test_most_the_greatest_is_never_wrong(self):
        for width in (1, 2, 8, 64):
            self.assert_told(code_at([1] * width, 0, width, 2 ** width - 1), ("read", 2 ** width - 1, width))
            self.assert_told(code_at([1] * (width - 1), 0, width, 2 ** width - 1), ("short", width - 1))

    def test_width_64_with_a_most_between(self):
        most = 10 ** 19
        bits = bits_of(most, 64)
        self.assert_told(code_at(bits, 0, 64, most), ("read", most, 64))
        self.assert_told(code_at(bits_of(most + 1, 64), 0, 64, most), code_by_last(most))
        self.assert_told(code_at([1] * 64, 0, 64, most), ("wrong", bits.index(0)))
        self.assert_told(code_at([1] + bits, 1, 64, most), ("read", most, 65))

    def test_cut_short_at_each_place(self):
        bits = bits_of(20, 6)
        for long in range(6):
            self.assert_told(code_at(bits[:long], 0, 6, 20), ("short", long))
            self.assert_told(code_at([1, 1] + bits[:long], 2, 6, 20), ("short", long + 2))

    def test_bits_behind_belong_to_something_else(self):
        for behind in ([0], [1], [1, 1, 1, 1], [0, 1, 0]):
            self.assert_told(code_at([1, 0, 0] + behind, 0, 3, 4), ("read", 4, 3))
            self.assert_told(code_at([1, 1, 0] + behind, 0, 3, 4), ("wrong", 1))
            self.assert_told(code_at([1] + behind, 1, 0, 0), ("read", 0, 1))

    def test_all_that_is_small(self):
        for width in range(4):
            for most in range(2 ** width):
                for bits in all_bits(5):
                    for place in range(len(bits) + 1):
                        asked = (bits, place, width, most)
                        with self.subTest(asked=asked):
                            self.assert_told(code_at(*asked), code_by_point_8(*asked))

    def test_the_list_stays(self):
        for bits in ([1, 0, 0, 1], [1, 1, 0], [1], []):
            before = list(bits)
            code_at(bits, 0, 3, 4)
            self.assertEqual(bits, before)

    def test_somewhat_beyond_raises_no_error(self):
        for bits in all_bits(3):
            for place in range(-4, 6):
                for width in (-2, -1, 0, 1, 3, 65):
                    for most in (-1, 0, 1, 8, 2 ** 65):
                        self.assertIn(code_at(bits, place, width, most)[0], ("read", "short", "wrong"))


def code_by_last(most):
    """What the number one above most gives in 64 bits: wrong at the first bit that is greater than most's."""
    above = written(most + 1, 64)
    return ("wrong", [one > other for one, other in zip(above, written(most, 64))].index(True))


if __name__ == "__main__":
    unittest.main()
