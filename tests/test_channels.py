"""In and out over channels, the channel being free or taken."""

import unittest

from line import ALL, ENABLING, NONE, READY, WAITING, MachineTest, ask, byte_codes, op

CH = 0x100
X = 0x180
ROW = {0x141: 1, 0x142: 2, 0x143: 3, 0x144: 4, 0x145: 5}


class InTest(MachineTest):
    def test_free_it_waits(self):
        before = {"a": 3, "b": CH, "c": 0x123, "words": {CH: NONE}}
        after = {"w": NONE, "words": {CH: 0x200, 0x1F4: 0x123, 0x1FC: 0x11}}
        self.does(op(0x07), before, after)

    def test_free_the_next_runs(self):
        before = {"a": 3, "b": CH, "c": 0x123, "first": X, "last": X, "words": {CH: NONE, X - 4: 0x41}}
        after = {"w": X, "i": 0x41, "first": NONE, "last": NONE, "words": {CH: 0x200, 0x1F4: 0x123, 0x1FC: 0x11}}
        self.does(op(0x07), before, after)

    def test_taken_bytes_are_moved(self):
        before = {"a": 3, "b": CH + 3, "c": 0x123, "words": {CH: X, X - 12: 0x141}, "bytes": ROW}
        after = {"first": X, "last": X, "words": {CH: NONE}, "bytes": {0x123: 1, 0x124: 2, 0x125: 3}}
        self.does(op(0x07), before, after)

    def test_taken_goes_behind_the_queue(self):
        before = {"a": 1, "b": CH, "c": 0x123, "first": 0x1A0, "last": 0x1C0,
                  "words": {CH: X, X - 12: 0x141}, "bytes": ROW}
        after = {"last": X, "words": {CH: NONE, 0x1B8: X}, "bytes": {0x123: 1}}
        self.does(op(0x07), before, after)

    def test_taken_by_a_place_that_is_no_multiple_of_4(self):
        before = {"a": 1, "b": CH, "c": 0x123, "words": {CH: X + 3, X - 12: 0x141}, "bytes": ROW}
        self.does(op(0x07), before, {"first": X, "last": X, "words": {CH: NONE}, "bytes": {0x123: 1}})

    def test_overlapping(self):
        before = {"a": 5, "b": CH, "c": 0x142, "words": {CH: X, X - 12: 0x141}, "bytes": ROW}
        after = {"first": X, "last": X, "words": {CH: NONE},
                 "bytes": {0x142: 1, 0x143: 2, 0x144: 3, 0x145: 4, 0x146: 5}}
        self.does(op(0x07), before, after)

    def test_bytes_over_the_channel_go_before_none(self):
        before = {"a": 5, "b": CH, "c": CH, "words": {CH: X, X - 12: 0x141}, "bytes": ROW}
        self.does(op(0x07), before, {"first": X, "last": X, "words": {CH: NONE}, "bytes": {CH + 4: 5}})

    def test_no_bytes(self):
        for place in (0x141, 65536, ALL):
            before = {"a": 0, "b": CH, "c": ALL, "words": {CH: X, X - 12: place}, "bytes": ROW}
            self.does(op(0x07), before, {"first": X, "last": X, "words": {CH: NONE}})

    def test_no_bytes_but_the_place_is_read(self):
        for x in (0, 8, 65548, ALL):
            self.outside(op(0x07), {"a": 0, "b": CH, "c": 0x123, "words": {CH: x}})

    def test_states_of_choices_are_places_to_it(self):
        for state in (ENABLING, WAITING, READY):
            self.outside(op(0x07), {"a": 1, "b": CH, "c": 0x123, "words": {CH: X, X - 12: state}})
            before = {"a": 0, "b": CH, "c": 0x123, "words": {CH: X, X - 12: state}}
            self.does(op(0x07), before, {"first": X, "last": X, "words": {CH: NONE}})

    def test_channel_outside(self):
        for ch in (65536, NONE, ALL):
            self.outside(op(0x07), {"a": 1, "b": ch, "c": 0x123})

    def test_channel_in_the_last_word(self):
        # Its word is 0 there, so 0 is the process that waits: its -12 is outside.
        self.outside(op(0x07), {"a": 1, "b": 65535, "c": 0x123})

    def test_moved_bytes_outside(self):
        for count, source, target in ((2, 65535, 0x123), (2, 0x141, 65535), (1, ALL, 0x123), (ALL, 0x141, 0x123)):
            self.outside(op(0x07), {"a": count, "b": CH, "c": target, "words": {CH: X, X - 12: source}})

    def test_found_outside_late(self):
        before = {"a": 3, "b": CH, "c": 0x123, "words": {CH: X, X - 12: 0x141}, "bytes": ROW}
        self.outside(op(0x07), dict(before, first=0x1A0, last=0))
        free = {"a": 3, "b": CH, "c": 0x123, "words": {CH: NONE}}
        self.outside(op(0x07), dict(free, first=0, last=0))
        self.outside(op(0x07), dict(free, w=8))
        self.outside(op(0x07), dict(free, w=0))

    def test_channel_in_the_waiting_one_s_own_words(self):
        # Later words go over the channel's word: first the place, then where it goes on.
        before = {"a": 3, "b": 0x1F4, "c": 0x123, "words": {0x1F4: NONE}}
        self.does(op(0x07), before, {"w": NONE, "words": {0x1F4: 0x123, 0x1FC: 0x11}})
        before = {"a": 3, "b": 0x1FC, "c": 0x123, "words": {0x1FC: NONE}}
        self.does(op(0x07), before, {"w": NONE, "words": {0x1F4: 0x123, 0x1FC: 0x11}})


class OutTest(MachineTest):
    def test_free_it_waits(self):
        before = {"a": 3, "b": CH, "c": 0x141, "words": {CH: NONE}}
        self.does(op(0x0B), before, {"w": NONE, "words": {CH: 0x200, 0x1F4: 0x141, 0x1FC: 0x11}})

    def test_free_the_next_runs(self):
        before = {"a": 3, "b": CH, "c": 0x141, "first": X, "last": 0x1C0,
                  "words": {CH: NONE, X - 4: 0x41, X - 8: 0x1C0}}
        after = {"w": X, "i": 0x41, "first": 0x1C0, "words": {CH: 0x200, 0x1F4: 0x141, 0x1FC: 0x11}}
        self.does(op(0x0B), before, after)

    def test_taken_bytes_are_moved(self):
        before = {"a": 3, "b": CH + 1, "c": 0x141, "words": {CH: X, X - 12: 0x123}, "bytes": ROW}
        after = {"first": X, "last": X, "words": {CH: NONE}, "bytes": {0x123: 1, 0x124: 2, 0x125: 3}}
        self.does(op(0x0B), before, after)

    def test_taken_goes_behind_the_queue(self):
        before = {"a": 1, "b": CH, "c": 0x141, "first": 0x1A0, "last": 0x1C0,
                  "words": {CH: X, X - 12: 0x123}, "bytes": ROW}
        self.does(op(0x0B), before, {"last": X, "words": {CH: NONE, 0x1B8: X}, "bytes": {0x123: 1}})

    def test_no_bytes(self):
        for target in (0x123, 65536, NONE, ALL):
            before = {"a": 0, "b": CH, "c": ALL, "words": {CH: X, X - 12: target}}
            self.does(op(0x0B), before, {"first": X, "last": X, "words": {CH: NONE}})

    def test_no_bytes_but_the_place_is_read(self):
        for x in (0, 8, 65548, ALL):
            self.outside(op(0x0B), {"a": 0, "b": CH, "c": 0x141, "words": {CH: x}})

    def test_to_an_enabling_choice(self):
        before = {"a": 3, "b": CH, "c": 0x141, "words": {CH: X, X - 12: ENABLING}, "bytes": ROW}
        after = {"w": NONE, "words": {CH: 0x200, X - 12: READY, 0x1F4: 0x141, 0x1FC: 0x11}}
        self.does(op(0x0B), before, after)

    def test_to_a_waiting_choice(self):
        before = {"a": 3, "b": CH, "c": 0x141, "words": {CH: X, X - 12: WAITING, X - 4: 0x41}, "bytes": ROW}
        after = {"w": X, "i": 0x41, "words": {CH: 0x200, X - 12: READY, 0x1F4: 0x141, 0x1FC: 0x11}}
        self.does(op(0x0B), before, after)

    def test_to_a_waiting_choice_behind_the_queue(self):
        before = {"a": 3, "b": CH, "c": 0x141, "first": 0x1A0, "last": 0x1A0,
                  "words": {CH: X, X - 12: WAITING, 0x19C: 0x41}, "bytes": ROW}
        after = {"w": 0x1A0, "i": 0x41, "first": X, "last": X,
                 "words": {CH: 0x200, X - 12: READY, 0x1F4: 0x141, 0x1FC: 0x11, 0x198: X}}
        self.does(op(0x0B), before, after)

    def test_to_a_ready_choice(self):
        before = {"a": 3, "b": CH, "c": 0x141, "words": {CH: X, X - 12: READY}, "bytes": ROW}
        self.does(op(0x0B), before, {"w": NONE, "words": {CH: 0x200, 0x1F4: 0x141, 0x1FC: 0x11}})

    def test_taken_by_a_place_that_is_no_multiple_of_4(self):
        before = {"a": 1, "b": CH, "c": 0x141, "words": {CH: X + 3, X - 12: 0x123}, "bytes": ROW}
        self.does(op(0x0B), before, {"first": X, "last": X, "words": {CH: NONE}, "bytes": {0x123: 1}})
        before = {"a": 1, "b": CH, "c": 0x141, "words": {CH: X + 3, X - 12: WAITING, X - 4: 0x41}, "bytes": ROW}
        after = {"w": X, "i": 0x41, "words": {CH: 0x200, X - 12: READY, 0x1F4: 0x141, 0x1FC: 0x11}}
        self.does(op(0x0B), before, after)

    def test_found_outside_late(self):
        for state in (ENABLING, WAITING, READY):
            before = {"a": 3, "b": CH, "c": 0x141, "words": {CH: X, X - 12: state}}
            self.outside(op(0x0B), dict(before, w=8))
            self.outside(op(0x0B), dict(before, first=0, last=0x1A0))
        before = {"a": 3, "b": CH, "c": 0x141, "words": {CH: X, X - 12: WAITING}}
        self.outside(op(0x0B), dict(before, first=0x1A0, last=0))
        before = {"a": 3, "b": CH, "c": 0x141, "words": {CH: X, X - 12: 0x123}, "bytes": ROW}
        self.outside(op(0x0B), dict(before, first=0x1A0, last=0))

    def test_moved_bytes_outside(self):
        for count, source, target in ((2, 65535, 0x123), (2, 0x141, 65535), (1, 0x141, NONE), (1, ALL, 0x123)):
            self.outside(op(0x0B), {"a": count, "b": CH, "c": source, "words": {CH: X, X - 12: target}})

    def test_channel_outside(self):
        self.outside(op(0x0B), {"a": 1, "b": 65536, "c": 0x141})


class OutOfRegisterTest(MachineTest):
    def test_byte_waits(self):
        before = {"a": 0x89ABCDEF, "b": CH, "words": {CH: NONE, 0x200: ALL}}
        after = {"w": NONE, "words": {CH: 0x200, 0x200: 0xEF, 0x1F4: 0x200, 0x1FC: 0x11}}
        self.does(op(0x0E), before, after)

    def test_byte_is_moved(self):
        before = {"a": 0x8900CDEF, "b": CH, "words": {CH: X, X - 12: 0x123, 0x200: ALL}}
        after = {"first": X, "last": X, "words": {CH: NONE, 0x200: 0xEF}, "bytes": {0x123: 0xEF}}
        self.does(op(0x0E), before, after)

    def test_word_waits(self):
        before = {"a": 0x89ABCDEF, "b": CH, "words": {CH: NONE, 0x200: ALL}}
        after = {"w": NONE, "words": {CH: 0x200, 0x200: 0x89ABCDEF, 0x1F4: 0x200, 0x1FC: 0x11}}
        self.does(op(0x0F), before, after)

    def test_word_is_moved(self):
        before = {"a": 0x89ABCDEF, "b": CH, "words": {CH: X, X - 12: 0x121, 0x204: ALL}}
        after = {"first": X, "last": X, "words": {CH: NONE, 0x200: 0x89ABCDEF},
                 "bytes": {0x121: 0xEF, 0x122: 0xCD, 0x123: 0xAB, 0x124: 0x89}}
        self.does(op(0x0F), before, after)

    def test_to_choices(self):
        for number, word in ((0x0E, 0xEF), (0x0F, 0x89ABCDEF)):
            before = {"a": 0x89ABCDEF, "b": CH, "words": {CH: X, X - 12: WAITING, X - 4: 0x41}}
            after = {"w": X, "i": 0x41,
                     "words": {CH: 0x200, X - 12: READY, 0x200: word, 0x1F4: 0x200, 0x1FC: 0x11}}
            self.does(op(number), before, after)

    def test_w_s_word_is_put_before_the_channel_is_read(self):
        # The channel is w's word itself, which holds NONE then.
        before = {"a": NONE, "b": 0x200, "words": {0x200: X}}
        self.does(op(0x0F), before, {"w": NONE, "words": {0x200: 0x200, 0x1F4: 0x200, 0x1FC: 0x11}})

    def test_outside(self):
        for number in (0x0E, 0x0F):
            self.outside(op(number), {"b": CH, "w": 65536, "words": {CH: X, X - 12: 0x121}})
            self.outside(op(number), {"b": 65536})
            self.outside(op(number), {"b": CH, "words": {CH: X, X - 12: 65536}})
        self.outside(op(0x0F), {"b": CH, "words": {CH: X, X - 12: 65533}})
        before = {"b": CH, "words": {CH: X, X - 12: 65535}}
        after = {"first": X, "last": X, "words": {CH: NONE, 0x200: 0x11}, "bytes": {65535: 0x11}}
        self.does(op(0x0E), before, after)


class ResetChannelTest(MachineTest):
    def test_reset(self):
        self.does(op(0x12), {"a": CH + 2, "words": {CH: 0x89ABCDEF}}, {"a": 0x89ABCDEF, "words": {CH: NONE}})
        self.does(op(0x12), {"a": CH, "words": {CH: NONE}}, {"a": NONE})
        self.does(op(0x12), {"a": 65535}, {"a": 0, "words": {65532: NONE}})

    def test_outside(self):
        for a in (65536, NONE, ALL):
            self.outside(op(0x12), {"a": a})


class TalkTest(unittest.TestCase):
    def talk(self, first_program, second_program):
        """Two processes, at 200H and 300H, and what the one at 200H has in its word +4 at the end."""
        memory = [0] * 0x304
        memory[0:len(first_program)] = first_program
        memory[0x80:0x80 + len(second_program)] = second_program
        memory[0x103] = 0x80
        memory[0x2FC] = 0x80
        rows = ask([[0], [1, 3, 0x200], [1, 7, 0x300], [1, 8, 0x300], [3, 1000, memory], [2, 3], [2, 7], [2, 8]])
        self.assertEqual(rows[4][1], 1)
        self.assertEqual(rows[5:], [[0, NONE]] * 3)
        told = dict(zip(rows[4][3::2], rows[4][4::2]))
        self.assertNotIn(0x103, told)
        return [told.get(0x204 + k, 0) for k in range(4)]

    def test_in_first_and_out_first(self):
        reads = [0x11] + byte_codes(4, CH) + [0x44] + op(0x07) + op(0x15)
        writes = byte_codes(4, CH) + byte_codes(4, 0x04030201) + op(0x0F) + op(0x15)
        self.assertEqual(self.talk(reads, writes), [1, 2, 3, 4])
        # It goes behind the other one in the queue first, so the other one waits at the channel.
        later = byte_codes(1, 0) + op(0x39) + op(0x15) + reads
        self.assertEqual(self.talk(later, writes), [1, 2, 3, 4])


if __name__ == "__main__":
    unittest.main()
