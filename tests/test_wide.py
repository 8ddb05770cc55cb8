"""Operations on 64 bits."""

import unittest

from line import ALL, LEAST, MOST, MachineTest, op

B = 0x22222222
C = 0x33333333


class WideTest(MachineTest):
    def wide(self, number, a, b, c, x):
        self.does(op(number), {"a": a, "b": b, "c": c}, {"a": x & ALL, "b": x >> 32})

    def test_multiply(self):
        self.wide(0x31, 3, 4, 5, 17)
        self.wide(0x31, ALL, ALL, ALL, ALL * ALL + ALL)
        self.wide(0x31, LEAST, 2, 0, 1 << 32)
        self.wide(0x31, 0x12345678, 0x9ABCDEF0, 0xFFFF0000, 0x12345678 * 0x9ABCDEF0 + 0xFFFF0000)

    def test_divide(self):
        self.does(op(0x1A), {"a": 7, "b": 30, "c": 0}, {"a": 4, "b": 2})
        self.does(op(0x1A), {"a": 2, "b": 3, "c": 1}, {"a": 0x80000001, "b": 1})
        whole = 0xFFFFFFFE << 32 | 0x12345678
        self.does(op(0x1A), {"a": ALL, "b": 0x12345678, "c": 0xFFFFFFFE}, {"a": whole // ALL, "b": whole % ALL})

    def test_divide_where_a_is_not_above_c(self):
        for a, c in ((0, 0), (5, 5), (5, 6), (0, ALL), (MOST, LEAST)):
            self.does(op(0x1A), {"a": a, "c": c}, {"error": 1})
            self.does(op(0x1A), {"a": a, "c": c, "error": 1}, {})

    def test_sum(self):
        for a, b, c, low, carry in (
                (3, 4, 0, 7, 0), (3, 4, 1, 8, 0), (3, 4, 0xFFFFFFFE, 7, 0), (ALL, 0, 0, ALL, 0), (ALL, 0, 3, 0, 1),
                (ALL, 1, 0, 0, 1), (ALL, ALL, 1, ALL, 1)):
            self.does(op(0x37), {"a": a, "b": b, "c": c}, {"a": low, "b": carry})

    def test_difference(self):
        for a, b, c, low, borrow in (
                (3, 4, 0, 1, 0), (3, 4, 1, 0, 0), (4, 4, 2, 0, 0), (4, 4, 1, ALL, 1), (5, 4, 0, ALL, 1),
                (ALL, 0, 0, 1, 1), (ALL, 0, 1, 0, 1), (0, ALL, 0, ALL, 0)):
            self.does(op(0x4F), {"a": a, "b": b, "c": c}, {"a": low, "b": borrow})

    def test_shift_right(self):
        whole = 0x89ABCDEF << 32 | 0x01234567
        for a in (0, 4, 31, 32, 33, 63):
            self.wide(0x35, a, 0x01234567, 0x89ABCDEF, whole >> a)
        for a in (64, 65, LEAST, ALL):
            self.wide(0x35, a, ALL, ALL, 0)

    def test_shift_left(self):
        whole = 0x89ABCDEF << 32 | 0x01234567
        for a in (0, 4, 31, 32, 33, 63):
            self.wide(0x36, a, 0x01234567, 0x89ABCDEF, whole << a & (1 << 64) - 1)
        for a in (64, 65, LEAST, ALL):
            self.wide(0x36, a, ALL, ALL, 0)

    def test_written_out_shifts(self):
        self.does(op(0x35), {"a": 4, "b": 0x10, "c": 0x0F}, {"a": 0xF0000001, "b": 0})
        self.does(op(0x36), {"a": 4, "b": 0xF0000001, "c": 0}, {"a": 0x10, "b": 0x0F})

    def test_make_wide(self):
        self.does(op(0x1D), {"a": 5}, {"b": 0, "c": B})
        self.does(op(0x1D), {"a": MOST}, {"b": 0, "c": B})
        self.does(op(0x1D), {"a": LEAST}, {"b": ALL, "c": B})

    def test_make_narrow(self):
        for a, b, error in ((5, 0, 0), (5, ALL, 1), (5, 1, 1), (LEAST, ALL, 0), (LEAST, 0, 1), (MOST, 0, 0)):
            self.does(op(0x4C), {"a": a, "b": b}, {"b": C, "error": error})
            self.does(op(0x4C), {"a": a, "b": b, "error": 1}, {"b": C})


if __name__ == "__main__":
    unittest.main()
