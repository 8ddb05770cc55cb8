"""Each part of a choice, and whole choices."""

import unittest

from line import ALL, ENABLING, NONE, READY, WAITING, MachineTest, ask, byte_codes, op

C = 0x33333333
CH = 0x100
X = 0x180


class BeginTest(MachineTest):
    def test_begin(self):
        self.does(op(0x43), {}, {"words": {0x1F4: ENABLING}})

    def test_outside(self):
        self.does(op(0x43), {"w": 12}, {"words": {0: ENABLING}})
        for w in (0, 8, 65548):
            self.outside(op(0x43), {"w": w})


class EnableTest(MachineTest):
    def test_channel_free(self):
        self.does(op(0x48), {"a": 1, "b": CH, "words": {CH: NONE}}, {"b": C, "words": {CH: 0x200}})
        self.does(op(0x48), {"a": ALL, "b": CH + 3, "words": {CH: NONE}}, {"b": C, "words": {CH: 0x200}})

    def test_channel_taken_by_itself(self):
        before = {"a": 1, "b": CH, "words": {CH: 0x200, 0x1F4: ENABLING}}
        self.does(op(0x48), before, {"b": C})

    def test_channel_taken_by_another(self):
        before = {"a": 1, "b": CH, "words": {CH: X, 0x1F4: ENABLING}}
        self.does(op(0x48), before, {"b": C, "words": {0x1F4: READY}})
        before = {"a": 1, "b": CH, "words": {CH: 0x201, 0x1F4: ENABLING}}
        self.does(op(0x48), before, {"b": C, "words": {0x1F4: READY}})

    def test_channel_with_no_condition(self):
        for b in (CH, 65536, ALL):
            self.does(op(0x48), {"a": 0, "b": b, "words": {CH: X}}, {"b": C})

    def test_channel_outside(self):
        self.outside(op(0x48), {"a": 1, "b": 65536})
        self.outside(op(0x48), {"a": 1, "b": CH, "w": 8, "words": {CH: X}})
        self.does(op(0x48), {"a": 1, "b": CH, "w": 8, "words": {CH: NONE}}, {"b": C, "words": {CH: 8}})

    def test_skip(self):
        self.does(op(0x49), {"a": 1, "words": {0x1F4: ENABLING}}, {"words": {0x1F4: READY}})
        self.does(op(0x49), {"a": 0x80000000, "words": {0x1F4: ENABLING}}, {"words": {0x1F4: READY}})
        self.does(op(0x49), {"a": 0, "words": {0x1F4: ENABLING}}, {})

    def test_skip_outside(self):
        self.outside(op(0x49), {"a": 1, "w": 8})
        self.does(op(0x49), {"a": 0, "w": 8}, {})


class WaitForChoiceTest(MachineTest):
    def test_ready(self):
        self.does(op(0x44), {"words": {0x1F4: READY, 0x200: 5}}, {"words": {0x200: ALL}})

    def test_not_ready(self):
        for state in (ENABLING, WAITING, 0, NONE, ALL):
            before = {"words": {0x1F4: state, 0x200: 5}}
            self.does(op(0x44), before, {"w": NONE, "words": {0x200: ALL, 0x1F4: WAITING, 0x1FC: 0x12}})

    def test_not_ready_the_next_runs(self):
        before = {"first": X, "last": X, "words": {0x1F4: ENABLING, X - 4: 0x41}}
        after = {"w": X, "i": 0x41, "first": NONE, "last": NONE,
                 "words": {0x200: ALL, 0x1F4: WAITING, 0x1FC: 0x12}}
        self.does(op(0x44), before, after)

    def test_outside(self):
        for w in (0, 4, 8, 65536, 65548):
            self.outside(op(0x44), {"w": w, "i": 0x20})
        self.outside(op(0x44), {"first": 0, "last": 0, "words": {0x1F4: ENABLING}})


class DisableTest(MachineTest):
    def channel(self, word, chosen, after, distance=7, condition=1):
        before = {"a": distance, "b": condition, "c": CH + 1, "words": {CH: word, 0x200: chosen}}
        self.does(op(0x2F), before, after)

    def test_channel_taken_by_itself(self):
        self.channel(0x200, ALL, {"a": 0, "words": {CH: NONE}})

    def test_channel_free(self):
        self.channel(NONE, ALL, {"a": 0})

    def test_channel_ready_is_chosen(self):
        self.channel(X, ALL, {"a": 1, "words": {0x200: 7}})
        self.channel(X, ALL, {"a": 1, "words": {0x200: 0}}, distance=0)
        self.channel(X, ALL, {"a": 1, "words": {0x200: 7}}, condition=0x80000000)

    def test_channel_ready_but_another_is_chosen(self):
        for chosen in (0, 7, NONE, ALL - 1):
            self.channel(X, chosen, {"a": 0})

    def test_channel_with_no_condition(self):
        self.channel(X, ALL, {"a": 0}, condition=0)
        self.channel(0x200, ALL, {"a": 0}, condition=0)
        self.does(op(0x2F), {"a": 7, "b": 0, "c": ALL, "w": 65536}, {"a": 0})

    def test_channel_outside(self):
        self.outside(op(0x2F), {"a": 7, "b": 1, "c": 65536})
        self.outside(op(0x2F), {"a": 7, "b": 1, "c": CH, "w": 65536, "words": {CH: X}})

    def test_channel_w_s_word_is_looked_at_only_where_needed(self):
        self.does(op(0x2F), {"a": 7, "b": 1, "c": CH, "w": 65536, "words": {CH: NONE}}, {"a": 0})
        before = {"a": 7, "b": 1, "c": CH, "w": 65536, "words": {CH: 65536}}
        self.does(op(0x2F), before, {"a": 0, "words": {CH: NONE}})

    def test_skip_is_chosen(self):
        before = {"a": 7, "b": 1, "words": {0x200: ALL}}
        self.does(op(0x30), before, {"a": 1, "b": C, "words": {0x200: 7}})

    def test_skip_is_not_chosen(self):
        for condition, chosen in ((0, ALL), (0, 5), (1, 5), (1, 0), (ALL, NONE)):
            before = {"a": 7, "b": condition, "words": {0x200: chosen}}
            self.does(op(0x30), before, {"a": 0, "b": C})

    def test_skip_outside_in_any_case(self):
        for condition in (0, 1):
            self.outside(op(0x30), {"a": 7, "b": condition, "w": 65536})


class EndChoiceTest(MachineTest):
    def test_end(self):
        self.does(op(0x45), {"words": {0x200: 9}}, {"i": 0x1B})
        self.does(op(0x45), {"words": {0x200: 0xFFFFFFF0}}, {"i": 2})
        self.does(op(0x45), {"words": {0x200: 0xFFFFFFED}}, {"i": ALL})
        self.outside(op(0x45), {"w": 65536})


class WholeChoiceTest(unittest.TestCase):
    """A choice of channel 100H, whose branch pushes 1, or 104H, whose branch pushes 2, kept in w's word +4."""

    def choice(self):
        enable = op(0x43)
        for ch in (CH, CH + 4):
            enable += byte_codes(4, ch) + [0x41] + op(0x48)
        disable = op(0x44)
        for ch, distance in ((CH, 0), (CH + 4, 3)):
            disable += byte_codes(4, ch) + [0x41, 0x40 | distance] + op(0x2F)
        return enable + disable + op(0x45) + [0x41, 0xD1, 0x02, 0x42, 0xD1] + op(0x15)

    def chosen(self, first_channel, chooser_first):
        chooser = self.choice()
        sender = byte_codes(4, first_channel) + [0x45] + op(0x0F) + op(0x15)
        memory = [0] * 0x304
        memory[0:len(chooser)] = chooser
        memory[0xA0:0xA0 + len(sender)] = sender
        memory[CH + 3] = 0x80
        memory[CH + 7] = 0x80
        memory[0x2FC] = 0xA0
        first = [[1, 3, 0x200], [1, 4, 0], [1, 7, 0x300], [1, 8, 0x300]]
        if not chooser_first:
            memory[0x1FC] = 0
            first = [[1, 3, 0x300], [1, 4, 0xA0], [1, 7, 0x200], [1, 8, 0x200]]
        rows = ask([[0]] + first + [[3, 1000, memory], [2, 3], [2, 7], [2, 8]])
        self.assertEqual(rows[5][1], 1)
        self.assertEqual(rows[6:], [[0, NONE]] * 3)
        told = dict(zip(rows[5][3::2], rows[5][4::2]))
        other = CH + 4 if first_channel == CH else CH
        self.assertNotIn(other, told)
        self.assertNotIn(other + 1, told)
        return told.get(0x204)

    def test_waits_for_either(self):
        self.assertEqual(self.chosen(CH, True), 1)
        self.assertEqual(self.chosen(CH + 4, True), 2)

    def test_finds_either_ready(self):
        self.assertEqual(self.chosen(CH, False), 1)
        self.assertEqual(self.chosen(CH + 4, False), 2)


if __name__ == "__main__":
    unittest.main()
