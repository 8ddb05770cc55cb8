"""The queue, waiting, and the operations that start and end processes."""

import unittest

from line import ALL, LEAST, NONE, MachineTest, ask, byte_codes, op

A = 0x11111111
B = 0x22222222
C = 0x33333333


class QueueEndTest(MachineTest):
    """39: a goes to the queue's end, pop."""

    def test_empty(self):
        self.does(op(0x39), {"a": 0x100}, {"a": B, "b": C, "first": 0x100, "last": 0x100})

    def test_taken_down(self):
        self.does(op(0x39), {"a": 0x103}, {"a": B, "b": C, "first": 0x100, "last": 0x100})
        before = {"a": 0x103, "first": 0x180, "last": 0x180}
        self.does(op(0x39), before, {"a": B, "b": C, "last": 0x100, "words": {0x178: 0x100}})

    def test_one(self):
        before = {"a": 0x100, "first": 0x180, "last": 0x180}
        self.does(op(0x39), before, {"a": B, "b": C, "last": 0x100, "words": {0x178: 0x100}})

    def test_several(self):
        before = {"a": 0x100, "first": 0x180, "last": 0x1C0, "words": {0x178: 0x1C0}}
        self.does(op(0x39), before, {"a": B, "b": C, "last": 0x100, "words": {0x1B8: 0x100}})

    def test_empty_needs_no_memory(self):
        self.does(op(0x39), {"a": ALL}, {"a": B, "b": C, "first": 0xFFFFFFFC, "last": 0xFFFFFFFC})

    def test_empty_is_where_the_first_is_none(self):
        before = {"a": 0x100, "first": NONE, "last": 0x180}
        self.does(op(0x39), before, {"a": B, "b": C, "first": 0x100, "last": 0x100})
        self.outside(op(0x39), {"a": 0x100, "first": 0x180, "last": NONE})

    def test_last_outside(self):
        self.outside(op(0x39), {"a": 0x100, "first": 0x180, "last": 4})
        self.outside(op(0x39), {"a": 0x100, "first": 0x180, "last": 65544})
        before = {"a": 0x100, "first": 0x180, "last": 65540}
        self.does(op(0x39), before, {"a": B, "b": C, "last": 0x100, "words": {65532: 0x100}})


class WaitTest(MachineTest):
    """15: i is put at -4, and the next runs."""

    def test_queue_empty(self):
        self.does(op(0x15), {}, {"w": NONE, "words": {0x1FC: 0x12}})

    def test_queue_empty_where_only_the_last_is_told(self):
        self.does(op(0x15), {"last": 0x180}, {"w": NONE, "words": {0x1FC: 0x12}})

    def test_one(self):
        before = {"first": 0x180, "last": 0x180, "words": {0x17C: 0x89ABCDEF, 0x178: 0x1C0}}
        after = {"w": 0x180, "i": 0x89ABCDEF, "first": NONE, "last": NONE, "words": {0x1FC: 0x12}}
        self.does(op(0x15), before, after)

    def test_several(self):
        before = {"first": 0x180, "last": 0x300, "words": {0x17C: 0x41, 0x178: 0x1C3}}
        after = {"w": 0x180, "i": 0x41, "first": 0x1C0, "words": {0x1FC: 0x12}}
        self.does(op(0x15), before, after)

    def test_last_stays_where_the_next_one_is_told_as_none(self):
        before = {"first": 0x180, "last": 0x300, "words": {0x17C: 0x41, 0x178: NONE}}
        self.does(op(0x15), before, {"w": 0x180, "i": 0x41, "first": NONE, "words": {0x1FC: 0x12}})

    def test_itself_in_the_queue(self):
        before = {"first": 0x200, "last": 0x200}
        self.does(op(0x15), before, {"first": NONE, "last": NONE, "words": {0x1FC: 0x12}})

    def test_where_it_goes_on_is_put_first(self):
        # The waiting one's -4 is the next one's -8.
        before = {"first": 0x204, "last": 0x300, "words": {0x200: 0x41}}
        self.does(op(0x15), before, {"w": 0x204, "i": 0x41, "first": 0x10, "words": {0x1FC: 0x12}})

    def test_registers_stay(self):
        before = {"error": 1, "first": 0x180, "last": 0x180}
        self.does(op(0x15), before, {"w": 0x180, "i": 0, "first": NONE, "last": NONE, "words": {0x1FC: 0x12}})

    def test_next_word_of_the_last_is_not_looked_at(self):
        before = {"first": 4, "last": 4, "i": 0x10, "words": {0: 0x41}}
        self.does(op(0x15), before, {"w": 4, "i": 0x41, "first": NONE, "last": NONE, "words": {0x1FC: 0x12}})

    def test_outside(self):
        self.outside(op(0x15), {"w": 0})
        self.outside(op(0x15), {"w": 65540})
        self.outside(op(0x15), {"first": 0, "last": 0})
        self.outside(op(0x15), {"first": 4, "last": 0x100, "words": {0: 0x41}})
        self.outside(op(0x15), {"first": 0x10000 + 4, "last": 0x100})
        self.does(op(0x15), {"w": 65536}, {"w": NONE, "words": {65532: 0x12}})


class StopOnErrorTest(MachineTest):
    def test_no_error(self):
        self.does(op(0x55), {}, {})
        self.does(op(0x55), {"w": 0, "first": 0, "last": 0}, {})

    def test_error(self):
        self.does(op(0x55), {"error": 1}, {"w": NONE, "words": {0x1FC: 0x12}})
        before = {"error": 1, "first": 0x180, "last": 0x180, "words": {0x17C: 0x41}}
        self.does(op(0x55), before, {"w": 0x180, "i": 0x41, "first": NONE, "last": NONE, "words": {0x1FC: 0x12}})
        self.outside(op(0x55), {"error": 1, "w": 0})


class StartTest(MachineTest):
    def test_queue_empty(self):
        after = {"a": C, "b": C, "first": 0x100, "last": 0x100, "words": {0xFC: 0x16}}
        self.does(op(0x0D), {"a": 0x100, "b": 5}, after)
        self.does(op(0x0D), {"a": 0x103, "b": 5}, after)

    def test_queue_not_empty(self):
        before = {"a": 0x100, "b": 0xFFFFFFFF, "first": 0x180, "last": 0x1C0}
        self.does(op(0x0D), before, {"a": C, "b": C, "last": 0x100, "words": {0xFC: 0x10, 0x1B8: 0x100}})

    def test_goes_round(self):
        after = {"a": C, "b": C, "first": 0x100, "last": 0x100, "words": {0xFC: ALL}}
        self.does(op(0x0D), {"a": 0x100, "b": 0xFFFFFFEE}, after)

    def test_outside(self):
        self.outside(op(0x0D), {"a": 0})
        self.outside(op(0x0D), {"a": 65540})
        self.outside(op(0x0D), {"a": 0x100, "first": 0x180, "last": 0})


class EndTest(MachineTest):
    def test_last_to_end(self):
        before = {"a": 0x103, "words": {0x100: 0x89ABCDEF, 0x104: 1}}
        self.does(op(0x03), before, {"w": 0x100, "i": 0x89ABCDEF, "words": {0x104: 0}})

    def test_last_to_end_leaves_the_queue(self):
        before = {"a": 0x100, "first": 0x180, "last": 0x1C0, "words": {0x100: 0x41, 0x104: 1}}
        self.does(op(0x03), before, {"w": 0x100, "i": 0x41, "words": {0x104: 0}})

    def test_not_the_last(self):
        for count in (2, 0, LEAST, ALL):
            before = {"a": 0x103, "words": {0x100: 0x41, 0x104: count}}
            self.does(op(0x03), before, {"w": NONE, "words": {0x104: count - 1 & ALL}})

    def test_the_next_runs(self):
        before = {"a": 0x100, "first": 0x180, "last": 0x1C0, "words": {0x104: 2, 0x17C: 0x41, 0x178: 0x1C0}}
        self.does(op(0x03), before, {"w": 0x180, "i": 0x41, "first": 0x1C0, "words": {0x104: 1}})

    def test_workspace_needs_no_memory(self):
        self.does(op(0x03), {"w": 0, "a": 0x100, "words": {0x104: 2}}, {"w": NONE, "words": {0x104: 1}})

    def test_outside(self):
        for a in (65532, 65536, NONE):
            self.outside(op(0x03), {"a": a})
        self.outside(op(0x03), {"a": 0xFFFFFFFC, "words": {0: 1}})
        self.outside(op(0x03), {"a": 0x100, "first": 0, "last": 0, "words": {0x104: 2}})
        self.does(op(0x03), {"a": 0xFFFFFFFC, "words": {0: 2}}, {"w": NONE, "words": {0: 1}})


class SeveralTest(unittest.TestCase):
    def test_one_after_the_other(self):
        # Both write 1 at their w's word and stop, the second one behind the first.
        program = [0x41, 0xD0] + op(0x15)
        calls = [[0], [1, 3, 0x1C0], [1, 7, 0x100], [1, 8, 0x100], [3, 100, program], [2, 3], [2, 7], [2, 8], [2, 4]]
        rows = ask(calls)
        self.assertEqual(rows[4], [8, 1, 8, 0xFC, 4, 0x100, 1, 0x1BC, 4, 0x1C0, 1])
        self.assertEqual(rows[5:], [[0, NONE], [0, NONE], [0, NONE], [0, 4]])

    def test_order_is_that_of_coming(self):
        # Three are put into the queue, then each runs to its stop.
        program = []
        for w in (0x180, 0x100, 0x140):
            program += byte_codes(4, w) + op(0x39)
        program += op(0x15)
        memory = program + [0] * (0x180 - len(program))
        for w, place in ((0x180, 0x40), (0x100, 0x44), (0x140, 0x48)):
            memory[w - 4] = place
            memory[place:place + 2] = op(0x15)
        calls = [[0], [1, 3, 0x1C0]]
        seen = []
        for steps in (17, 19, 21, 23):
            rows = ask(calls + [[3, steps, memory], [2, 3], [2, 4], [2, 7], [2, 8]])
            self.assertEqual(rows[2][:2], [steps, 0])
            seen.append([row[1] for row in rows[3:]])
        self.assertEqual(seen, [
            [0x180, 0x40, 0x100, 0x140],
            [0x100, 0x44, 0x140, 0x140],
            [0x140, 0x48, NONE, NONE],
            [NONE, 0x4A, NONE, NONE],
        ])


if __name__ == "__main__":
    unittest.main()
