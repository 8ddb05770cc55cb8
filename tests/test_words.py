"""Operations that reckon with words, and the error flag."""

import unittest

from line import ALL, LEAST, MOST, MachineTest, op

A = 0x11111111
B = 0x22222222
C = 0x33333333


def minus(x):
    return (1 << 32) - x


class WordsTest(MachineTest):
    def two(self, number, a, b, x, error=0, c=C):
        """Two become x; the flag is as told, and stays up where it was up."""
        self.does(op(number), {"a": a, "b": b, "c": c}, {"a": x, "b": c, "error": error})
        self.does(op(number), {"a": a, "b": b, "c": c, "error": 1}, {"a": x, "b": c})

    def pops(self, number, a, b, error):
        self.does(op(number), {"a": a, "b": b}, {"a": b, "b": C, "error": error})
        self.does(op(number), {"a": a, "b": b, "error": 1}, {"a": b, "b": C})


class MovesTest(WordsTest):
    def test_reverse(self):
        self.does(op(0x00), {}, {"a": B, "b": A})

    def test_duplicate(self):
        self.does(op(0x5A), {}, {"a": A, "b": A, "c": B})

    def test_least(self):
        self.does(op(0x42), {}, {"a": 0x80000000, "b": A, "c": B})


class SumTest(WordsTest):
    def test_sum_round(self):
        for number in (0x02, 0x52):
            self.two(number, 3, 4, 7)
            self.two(number, ALL, 2, 1)
            self.two(number, MOST, 1, LEAST)
            self.two(number, LEAST, LEAST, 0)

    def test_difference_round(self):
        self.two(0x04, 3, 4, 1)
        self.two(0x04, 4, 3, ALL)
        self.two(0x04, 1, LEAST, MOST)

    def test_product_round(self):
        self.two(0x08, 3, 4, 12)
        self.two(0x08, ALL, ALL, 1)
        self.two(0x08, 0x10000, 0x10000, 0)
        self.two(0x08, 0x12345678, 0x9ABCDEF0, 0x12345678 * 0x9ABCDEF0 & ALL)

    def test_sum_with_error(self):
        self.two(0x05, 3, 4, 7)
        self.two(0x05, ALL, 1, 0)
        self.two(0x05, MOST, 1, LEAST, 1)
        self.two(0x05, MOST, MOST, 0xFFFFFFFE, 1)
        self.two(0x05, LEAST, ALL, MOST, 1)
        self.two(0x05, LEAST, LEAST, 0, 1)
        self.two(0x05, LEAST, MOST, ALL)

    def test_difference_with_error(self):
        self.two(0x0C, 3, 4, 1)
        self.two(0x0C, 4, 3, ALL)
        self.two(0x0C, 1, LEAST, MOST, 1)
        self.two(0x0C, ALL, MOST, LEAST, 1)
        self.two(0x0C, LEAST, 0, LEAST, 1)
        self.two(0x0C, LEAST, ALL, MOST)

    def test_product_with_error(self):
        self.two(0x53, 3, 4, 12)
        self.two(0x53, ALL, 5, minus(5))
        self.two(0x53, ALL, ALL, 1)
        self.two(0x53, 0x10000, 0x8000, LEAST, 1)
        self.two(0x53, minus(0x10000), 0x8000, LEAST)
        self.two(0x53, ALL, LEAST, LEAST, 1)
        self.two(0x53, LEAST, LEAST, 0, 1)
        self.two(0x53, 0x12345678, 0x1234, 0x12345678 * 0x1234 & ALL, 1)

    def test_sum_with_carry_and_error(self):
        self.two(0x16, 3, 4, 8, c=1)
        self.two(0x16, 3, 4, 7, c=0xFFFFFFFE)
        self.two(0x16, 3, 4, 8, c=ALL)
        self.two(0x16, MOST, 0, LEAST, 1, c=1)
        self.two(0x16, MOST, 0, MOST, c=2)
        self.two(0x16, LEAST, ALL, LEAST, c=1)
        self.two(0x16, LEAST, ALL, MOST, 1, c=0)

    def test_difference_with_borrow_and_error(self):
        self.two(0x38, 3, 4, 0, c=1)
        self.two(0x38, 3, 4, 1, c=0xFFFFFFFE)
        self.two(0x38, 0, LEAST, MOST, 1, c=1)
        self.two(0x38, 0, LEAST, LEAST, c=2)
        self.two(0x38, LEAST, 0, MOST, c=3)
        self.two(0x38, LEAST, 0, LEAST, 1, c=0)


class DivisionTest(WordsTest):
    def test_quotient_towards_0(self):
        self.two(0x2C, 2, 7, 3)
        self.two(0x2C, 2, minus(7), minus(3))
        self.two(0x2C, minus(2), 7, minus(3))
        self.two(0x2C, minus(2), minus(7), 3)
        self.two(0x2C, 9, 7, 0)
        self.two(0x2C, 9, minus(7), 0)
        self.two(0x2C, 1, LEAST, LEAST)
        self.two(0x2C, LEAST, LEAST, 1)
        self.two(0x2C, ALL, MOST, LEAST + 1)
        self.two(0x2C, 2, LEAST, 0xC0000000)

    def test_rest_has_the_sign_of_b(self):
        self.two(0x1F, 2, 7, 1)
        self.two(0x1F, 2, minus(7), minus(1))
        self.two(0x1F, minus(2), 7, 1)
        self.two(0x1F, minus(2), minus(7), minus(1))
        self.two(0x1F, 9, minus(7), minus(7))
        self.two(0x1F, 7, minus(7), 0)
        self.two(0x1F, LEAST, MOST, MOST)
        self.two(0x1F, MOST, LEAST, ALL)

    def test_by_0_and_the_least_by_minus_1(self):
        for number in (0x2C, 0x1F):
            self.pops(number, 0, 7, 1)
            self.pops(number, 0, 0, 1)
            self.pops(number, ALL, LEAST, 1)


class BitsTest(WordsTest):
    def test_greater(self):
        self.two(0x09, 3, 4, 1)
        self.two(0x09, 4, 4, 0)
        self.two(0x09, 5, 4, 0)
        self.two(0x09, ALL, 0, 1)
        self.two(0x09, 0, ALL, 0)
        self.two(0x09, LEAST, MOST, 1)

    def test_word_place(self):
        self.two(0x0A, 3, 4, 19)
        self.two(0x0A, 8, ALL, 4)
        self.two(0x0A, 1, 0x40000000, 1)

    def test_byte_count(self):
        self.does(op(0x34), {"a": 5}, {"a": 20})
        self.does(op(0x34), {"a": 0x40000001}, {"a": 4})

    def test_bits(self):
        self.two(0x33, 0xFF00FF00, 0xF0F0F0F0, 0x0FF00FF0)
        self.two(0x46, 0xFF00FF00, 0xF0F0F0F0, 0xF000F000)
        self.two(0x4B, 0xFF00FF00, 0xF0F0F0F0, 0xFFF0FFF0)
        self.does(op(0x32), {"a": 0xFF00FF01}, {"a": 0x00FF00FE})
        self.does(op(0x32), {"a": 0}, {"a": ALL})

    def test_shift_right(self):
        self.two(0x40, 0, ALL, ALL)
        self.two(0x40, 4, 0x87654321, 0x08765432)
        self.two(0x40, 31, ALL, 1)
        for a in (32, 33, 63, 64, LEAST, ALL):
            self.two(0x40, a, ALL, 0)

    def test_shift_left(self):
        self.two(0x41, 0, ALL, ALL)
        self.two(0x41, 4, 0x87654321, 0x76543210)
        self.two(0x41, 31, ALL, LEAST)
        for a in (32, 33, 63, 64, LEAST, ALL):
            self.two(0x41, a, ALL, 0)


class CheckTest(WordsTest):
    def test_extend_word(self):
        self.two(0x3A, 0x80, 0x7F, 0x7F)
        self.two(0x3A, 0x80, 0x80, minus(0x80))
        self.two(0x3A, 0x80, 0xFF, ALL)
        self.two(0x3A, LEAST, MOST, MOST)
        self.two(0x3A, LEAST, 0x80000001, 0x80000001)
        self.two(0x3A, ALL, 5, 5)
        self.two(0x3A, 5, ALL, ALL - 10)
        self.two(0x3A, 0, 0, 0)

    def test_check_word(self):
        self.pops(0x56, 0x80, 0x7F, 0)
        self.pops(0x56, 0x80, 0x80, 1)
        self.pops(0x56, 0x80, minus(0x80), 0)
        self.pops(0x56, 0x80, minus(0x81), 1)
        self.pops(0x56, MOST, LEAST + 1, 0)
        self.pops(0x56, MOST, LEAST, 1)
        self.pops(0x56, MOST, MOST, 1)
        self.pops(0x56, 0, 0, 1)
        self.pops(0x56, minus(1), 0, 1)

    def test_check_word_by_the_least(self):
        for b in (0, 1, ALL, MOST, LEAST):
            self.pops(0x56, LEAST, b, 1)

    def test_check_subscript(self):
        self.pops(0x13, 5, 4, 0)
        self.pops(0x13, 5, 5, 1)
        self.pops(0x13, 5, 6, 1)
        self.pops(0x13, ALL, 5, 0)
        self.pops(0x13, 5, ALL, 1)
        self.pops(0x13, 0, 0, 1)

    def test_check_count(self):
        self.pops(0x4D, 5, 0, 1)
        self.pops(0x4D, 5, 1, 0)
        self.pops(0x4D, 5, 5, 0)
        self.pops(0x4D, 5, 6, 1)
        self.pops(0x4D, ALL, LEAST, 0)
        self.pops(0x4D, MOST, LEAST, 1)

    def test_word_count(self):
        self.does(op(0x3F), {"a": 7}, {"a": 1, "b": 3, "c": B})
        self.does(op(0x3F), {"a": minus(7)}, {"a": minus(2), "b": 1, "c": B})
        self.does(op(0x3F), {"a": LEAST}, {"a": 0xE0000000, "b": 0, "c": B})
        self.does(op(0x3F), {"a": MOST}, {"a": 0x1FFFFFFF, "b": 3, "c": B})


class FlagTest(WordsTest):
    def test_set_error(self):
        self.does(op(0x10), {}, {"error": 1})
        self.does(op(0x10), {"error": 1}, {})

    def test_test_error(self):
        self.does(op(0x29), {}, {"a": 1, "b": A, "c": B})
        self.does(op(0x29), {"error": 1}, {"a": 0, "b": A, "c": B, "error": 0})


if __name__ == "__main__":
    unittest.main()
