"""Operations on bytes of the memory, on w and on i."""

import unittest

from line import ALL, LEAST, MOST, NONE, MachineTest, filled, op, outcome

A = 0x11111111
B = 0x22222222
C = 0x33333333


class ByteTest(MachineTest):
    def test_load(self):
        self.does(op(0x01), {"a": 0x103, "bytes": {0x102: 7, 0x103: 0xF5}}, {"a": 0xF5})

    def test_load_at_the_ends(self):
        self.does(op(0x01), {"a": 0, "bytes": {0: 9}}, {"a": 9})
        self.does(op(0x01), {"a": 65535}, {"a": 0})
        for a in (65536, NONE, ALL):
            self.outside(op(0x01), {"a": a})

    def test_store(self):
        self.does(op(0x3B), {"a": 0x103, "b": 0x123456F8}, {"a": C, "b": C, "bytes": {0x103: 0xF8}})
        self.does(op(0x3B), {"a": 0x102, "b": ALL}, {"a": C, "b": C, "bytes": {0x102: 0xFF}})

    def test_store_at_the_ends(self):
        self.does(op(0x3B), {"a": 65535}, {"a": C, "b": C, "bytes": {65535: 0x22}})
        self.does(op(0x3B), {"a": 0}, {"a": C, "b": C, "bytes": {0: 0x22}})
        for a in (65536, NONE, ALL):
            self.outside(op(0x3B), {"a": a})


class MoveTest(MachineTest):
    ROW = {0x101: 1, 0x102: 2, 0x103: 3, 0x104: 4, 0x105: 5}

    def move(self, count, source, target, changed):
        before = {"a": count, "b": target, "c": source, "bytes": self.ROW}
        self.does(op(0x4A), before, {"a": source, "b": source, "bytes": changed})

    def test_apart(self):
        self.move(3, 0x101, 0x182, {0x182: 1, 0x183: 2, 0x184: 3})

    def test_overlap_upwards(self):
        self.move(5, 0x101, 0x103, {0x103: 1, 0x104: 2, 0x105: 3, 0x106: 4, 0x107: 5})

    def test_overlap_downwards(self):
        self.move(5, 0x101, 0xFF, {0xFF: 1, 0x100: 2, 0x101: 3, 0x102: 4, 0x103: 5})

    def test_onto_itself(self):
        self.move(5, 0x101, 0x101, {})

    def test_of_no_bytes(self):
        self.move(0, 0x101, 0x182, {})
        for place in (65536, NONE, ALL):
            self.move(0, place, 0x182, {})
            self.move(0, 0x101, place, {})

    def test_to_the_last_byte(self):
        self.move(2, 0x101, 65534, {65534: 1, 65535: 2})
        self.move(2, 65534, 0x101, {0x101: 0, 0x102: 0})

    def test_all_of_the_memory(self):
        self.move(65536, 0, 0, {})

    def test_outside(self):
        for count, source, target in (
                (2, 65535, 0x101), (2, 0x101, 65535), (1, 65536, 0x101), (1, 0x101, 65536), (1, ALL, 0x101),
                (2, ALL, 0x101), (2, 0x101, ALL), (65537, 0, 0), (65536, 1, 0), (65536, 0, 1), (ALL, 0x101, 0x182),
                (LEAST, 0, 0)):
            self.outside(op(0x4A), {"a": count, "b": target, "c": source, "bytes": self.ROW})


class PlacesTest(MachineTest):
    def test_place_from_here(self):
        self.does(op(0x1B), {"a": 5}, {"a": 0x17})
        self.does(op(0x1B), {"a": ALL}, {"a": 0x11})
        self.does(op(0x1B), {"a": 0xFFFFFFED}, {"a": ALL})

    def test_general_call(self):
        self.does(op(0x06), {"a": 0x89ABCDEF}, {"a": 0x11, "i": 0x89ABCDEF})

    def test_general_workspace(self):
        self.does(op(0x3C), {"a": 0x107}, {"a": 0x200, "w": 0x104})
        self.does(op(0x3C), {"a": ALL}, {"a": 0x200, "w": 0xFFFFFFFC})
        self.does(op(0x3C), {"a": NONE + 3}, {"a": 0x200, "w": NONE})

    def test_return(self):
        self.does(op(0x20), {"words": {0x200: 0x89ABCDEF}}, {"i": 0x89ABCDEF, "w": 0x210})
        self.does(op(0x20), {"w": 65532}, {"i": 0, "w": 65548})
        for w in (65536, 0xFFFFFFFC):
            self.outside(op(0x20), {"w": w})

    def test_call_and_return(self):
        # 92 goes on behind the next two bytes; 22 F0 comes back to the first of them.
        got = outcome([0x92, 0x00, 0x00, 0x22, 0xF0], filled({}), 3)[0]
        self.assertEqual((got.done, got.why), (3, 0))
        self.assertEqual((got.values["i"], got.values["w"], got.values["a"]), (0x11, 0x200, 0x11))


class LoopEndTest(MachineTest):
    def test_goes_on(self):
        for count in (2, 3, MOST):
            before = {"a": 6, "b": 0x103, "words": {0x100: 9, 0x104: count}}
            self.does(op(0x21), before, {"i": 0x0C, "words": {0x100: 10, 0x104: count - 1}})

    def test_ends(self):
        for count in (1, 0, LEAST, ALL):
            before = {"a": 6, "b": 0x102, "words": {0x100: 9, 0x104: count}}
            self.does(op(0x21), before, {"words": {0x104: count - 1 & ALL}})

    def test_numbers_go_round(self):
        before = {"a": 0x13, "b": 0x100, "words": {0x100: ALL, 0x104: 2}}
        self.does(op(0x21), before, {"i": ALL, "words": {0x100: 0, 0x104: 1}})
        before = {"a": 0xFFFFFFFF, "b": 0x100, "words": {0x100: ALL, 0x104: 2}}
        self.does(op(0x21), before, {"i": 0x13, "words": {0x100: 0, 0x104: 1}})

    def test_word_at_b_is_looked_at_only_where_it_goes_on(self):
        self.does(op(0x21), {"a": 6, "b": 0xFFFFFFFC, "words": {0: 1}}, {"words": {0: 0}})
        self.outside(op(0x21), {"a": 6, "b": 0xFFFFFFFC, "words": {0: 2}})

    def test_outside(self):
        for b in (65532, 65535, 65536, NONE):
            self.outside(op(0x21), {"b": b})
        self.does(op(0x21), {"b": 65528}, {"words": {65532: ALL}})


if __name__ == "__main__":
    unittest.main()
