"""The sixteen kinds of byte, with operands from prefixes, and their edges."""

import unittest

from line import ALL, LEAST, LISTED, MOST, NONE, MachineTest, byte_codes, filled, op, outcome

A = 0x11111111
B = 0x22222222
C = 0x33333333


class PrefixTest(MachineTest):
    def test_prefix_shifts_by_four(self):
        self.does([0x25], {}, {"operand": 0x50})
        self.does([0x21, 0x22], {}, {"operand": 0x120})

    def test_prefix_goes_round(self):
        self.does([0x25], {"operand": 0xABCDEF10}, {"operand": 0xBCDEF150})

    def test_negative_prefix(self):
        self.does([0x60], {}, {"operand": 0xFFFFFFF0})
        self.does([0x65], {}, {"operand": 0xFFFFFFA0})
        self.does([0x65], {"operand": 0x12345670}, {"operand": 0xDCBA98A0})
        self.does([0x61, 0x2F], {}, {"operand": 0xFFFFFEF0})

    def test_operand_is_0_behind_all_other_kinds(self):
        before = {"a": 0x40, "w": 0x200, "operand": 0}
        for kind in (0, 1, 3, 4, 5, 7, 8, 9, 10, 11, 12, 13, 14):
            self.does([0x20, kind << 4], dict(before, operand=0), self.after_zero(kind))
        self.does([0x24, 0xF6], {"operand": 0, "a": 5, "b": 3}, {"a": 1, "b": C})

    def after_zero(self, kind):
        a = 0x40
        return {
            0: {}, 5: {}, 8: {}, 11: {},
            1: {"a": 0x200, "b": a, "c": B},
            3: {"a": 0},
            4: {"a": 0, "b": a, "c": B},
            7: {"a": 0, "b": a, "c": B},
            9: {"a": 0x12, "w": 0x1F0, "words": {0x1F0: 0x12, 0x1F4: a, 0x1F8: B, 0x1FC: C}},
            10: {"a": B, "b": C},
            12: {"a": 0},
            13: {"a": B, "b": C, "words": {0x200: a}},
            14: {"a": C, "b": C, "words": {0x40: B}},
        }[kind]

    def test_set_operand_is_used(self):
        self.does([0x43], {"operand": 0x12345670}, {"operand": 0, "a": 0x12345673, "b": A, "c": B})


class JumpTest(MachineTest):
    def test_forwards(self):
        self.does([0x05], {}, {"i": 0x16})

    def test_backwards(self):
        self.does(byte_codes(0, -7), {}, {"i": 0x12 - 7})

    def test_i_goes_round(self):
        self.does(byte_codes(0, -0x13), {}, {"i": ALL})
        self.does([0x02], {"operand": 0xFFFFFFF0}, {"operand": 0, "i": 3})

    def test_outside_only_with_the_next_byte(self):
        self.does([0x00], {"operand": 0x7FFFFFF0}, {"operand": 0, "i": 0x80000001})

    def test_where_zero(self):
        self.does([0xA5], {"a": 0}, {"i": 0x16})
        self.does(byte_codes(10, -7), {"a": 0}, {"i": 0x12 - 7})

    def test_where_not_zero_pops(self):
        for a in (1, LEAST, ALL):
            self.does([0xA5], {"a": a}, {"a": B, "b": C})


class LoadTest(MachineTest):
    def test_constant(self):
        self.does([0x4F], {}, {"a": 15, "b": A, "c": B})
        self.does(byte_codes(4, 0xFEDCBA98), {}, {"a": 0xFEDCBA98, "b": A, "c": B})
        self.does(byte_codes(4, -1), {}, {"a": ALL, "b": A, "c": B})

    def test_local_place(self):
        self.does([0x13], {}, {"a": 0x20C, "b": A, "c": B})
        self.does(byte_codes(1, -0x81), {}, {"a": 0xFFFFFFFC, "b": A, "c": B})
        self.does([0x12], {"operand": 0xC0000000}, {"operand": 0, "a": 0x208, "b": A, "c": B})

    def test_local(self):
        words = {"words": {0x20C: 0x89ABCDEF}}
        self.does([0x73], words, {"a": 0x89ABCDEF, "b": A, "c": B})

    def test_local_goes_round(self):
        before = {"w": 0xFFFFFFFC, "words": {0: 0x89ABCDEF}, "i": 0x10}
        self.does([0x71], before, {"a": 0x89ABCDEF, "b": A, "c": B})
        self.does([0x71], dict(before, w=0xFFFFFFFC, operand=0xC0000000), {"operand": 0, "a": 0x89ABCDEF, "b": A, "c": B})

    def test_local_outside(self):
        self.does([0x7F], {"w": 65532 - 60}, {"a": 0, "b": A, "c": B})
        self.outside([0x7F], {"w": 65536 - 60})
        self.outside(byte_codes(7, -1), {"w": 0})
        self.outside([0x70], {"w": 0xFFFFFFFC})

    def test_word_at(self):
        words = {"words": {0x10C: 0x89ABCDEF}}
        for a in (0x100, 0x101, 0x103):
            self.does([0x33], dict(words, a=a), {"a": 0x89ABCDEF})
        self.does([0x33], {"a": 0xFFFFFFF7, "words": {0: 0x1234567}, "i": 0x10}, {"a": 0x1234567})

    def test_word_at_lowest_byte_first(self):
        self.does([0x30], {"a": 0x103, "bytes": {0x100: 1, 0x101: 2, 0x102: 3, 0x103: 0xF4}}, {"a": 0xF4030201})

    def test_word_at_outside(self):
        self.does([0x30], {"a": 65535}, {"a": 0})
        for a in (65536, NONE, ALL):
            self.outside([0x30], {"a": a})
        self.outside([0x31], {"a": 65532})

    def test_place_at(self):
        self.does([0x53], {"a": 0x101}, {"a": 0x10D})
        self.does([0x51], {"a": 0xFFFFFFFE}, {"a": 2})
        self.does(byte_codes(5, -1), {"a": 3}, {"a": ALL})


class AddAndEqualTest(MachineTest):
    def test_add(self):
        self.does([0x85], {"a": 7}, {"a": 12})
        self.does(byte_codes(8, -9), {"a": 7}, {"a": 0xFFFFFFFE})
        self.does([0x81], {"a": ALL}, {"a": 0})

    def test_add_error_above(self):
        self.does([0x81], {"a": MOST}, {"a": LEAST, "error": 1})
        self.does([0x81], {"a": MOST - 1}, {"a": MOST})

    def test_add_error_below(self):
        self.does(byte_codes(8, -1), {"a": LEAST}, {"a": MOST, "error": 1})
        self.does(byte_codes(8, -1), {"a": LEAST + 1}, {"a": LEAST})

    def test_error_stays_up(self):
        self.does([0x81], {"a": 1, "error": 1}, {"a": 2})

    def test_equals(self):
        self.does([0xC5], {"a": 5}, {"a": 1})
        self.does([0xC5], {"a": 6}, {"a": 0})
        self.does([0xC0], {"a": 0}, {"a": 1})
        self.does(byte_codes(12, -1), {"a": ALL}, {"a": 1})
        self.does(byte_codes(12, LEAST), {"a": LEAST}, {"a": 1})


class StoreTest(MachineTest):
    def test_local(self):
        self.does([0xD3], {"a": 0x89ABCDEF}, {"a": B, "b": C, "words": {0x20C: 0x89ABCDEF}})

    def test_local_edges(self):
        self.does(byte_codes(13, 1), {"w": 65528}, {"a": B, "b": C, "words": {65532: A}})
        self.outside([0xD1], {"w": 65532})
        self.outside(byte_codes(13, -1), {"w": 0})
        self.does([0xD1], {"w": 0xFFFFFFFC}, {"a": B, "b": C, "words": {0: A}})

    def test_word_at(self):
        for a in (0x100, 0x102, 0x103):
            self.does([0xE3], {"a": a}, {"a": C, "b": C, "words": {0x10C: B}})

    def test_word_at_edges(self):
        self.does([0xE0], {"a": 65535}, {"a": C, "b": C, "words": {65532: B}})
        self.outside([0xE1], {"a": 65535})
        self.outside([0xE0], {"a": 65536})
        self.does([0xE1], {"a": ALL}, {"a": C, "b": C, "words": {0: B}})


class WorkspaceTest(MachineTest):
    def test_adjust(self):
        self.does([0xB3], {}, {"w": 0x20C})
        self.does(byte_codes(11, -3), {}, {"w": 0x1F4})
        self.does(byte_codes(11, -1), {"w": 0}, {"w": 0xFFFFFFFC})
        self.does([0xB1], {"w": 0xFFFFFFFC}, {"w": 0})

    def test_adjust_to_none_runs_no_more(self):
        self.does([0xB1], {"w": NONE - 4}, {"w": NONE})
        self.stops([0xB1, 0x41], {"w": NONE - 4}, 1)

    def test_call(self):
        after = {"w": 0x1F0, "a": 0x11, "i": 0x16, "words": {0x1F0: 0x11, 0x1F4: A, 0x1F8: B, 0x1FC: C}}
        self.does([0x95], {}, after)

    def test_call_backwards(self):
        after = {"w": 0x1F0, "a": 0x12, "i": 0x0B, "words": {0x1F0: 0x12, 0x1F4: A, 0x1F8: B, 0x1FC: C}}
        self.does(byte_codes(9, -7), {}, after)

    def test_call_at_the_ends(self):
        words = {0: 0x21, 4: A, 8: B, 12: C}
        self.does([0x90], {"w": 16, "i": 0x20}, {"w": 0, "a": 0x21, "words": words})
        words = {65520: 0x21, 65524: A, 65528: B, 65532: C}
        self.does([0x90], {"w": 65536, "i": 0x20}, {"w": 65520, "a": 0x21, "words": words})

    def test_call_partly_outside_puts_nothing(self):
        for w in (0, 4, 8, 12, 65540, 65544, 65548, 65552, NONE + 16):
            self.outside([0x95], {"w": w, "i": 0x20})


class OperationNumberTest(MachineTest):
    def test_listed_ones_are_there(self):
        for number in LISTED:
            self.does_something(number)

    def does_something(self, number):
        words = {0x100: 0x300, 0x104: 2, 0x2F4: 0x180, 0x200: 0x40}
        program = op(number)
        got = outcome(program, filled({"a": 0x100, "b": 0x100, "c": 0x100, "words": words}), len(program))[0]
        self.assertEqual((number, got.why, got.done), (number, 0, len(program)))

    def test_all_others_are_none(self):
        for number in range(0x200):
            if number not in LISTED:
                self.stops(op(number), {}, 3)

    def test_far_numbers_are_none(self):
        for number in (0x1000, 0x10002, 0x80000002, 0xFFFFFF05, ALL):
            self.stops(op(number), {}, 3)

    def test_operand_stays_where_there_is_no_operation(self):
        before = {"operand": 0x100, "error": 1, "first": 0x40, "last": 0x80}
        self.stops([0xF2], before, 3)
        self.stops([0x41, 0x22, 0x25, 0xFE], before, 3)


if __name__ == "__main__":
    unittest.main()
