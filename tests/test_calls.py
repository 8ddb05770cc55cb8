"""Promises 1, 2 and 3 as calls: how they are written, answered and refused."""

import unittest

from chanqueue.machine import answers
from line import ALL, NAMES, NONE, ORDINARY, ask, byte_codes, gets, op, sets_for

AFTER_RESET = [[0, 0], [0, 0], [0, 0], [0, NONE], [0, 0], [0, 0], [0, 0], [0, NONE], [0, NONE]]
BEYOND = (-2147483648, -1, 9, 10, 2147483647)


class ResetTest(unittest.TestCase):
    def test_answer_is_one_number(self):
        self.assertEqual(answers([0]), [1, 0])

    def test_each_of_the_nine(self):
        self.assertEqual(ask([[0]] + gets())[1:], AFTER_RESET)

    def test_in_the_middle(self):
        calls = [[0]] + [[1, which, 0x7654321F] for which in range(9)] + [[0]] + gets()
        self.assertEqual(ask(calls)[10:], [[0]] + AFTER_RESET)

    def test_after_a_run(self):
        calls = [[0], [1, 3, 64], [3, 3, [0x45, 0x21, 0x60]], [0]] + gets()
        rows = ask(calls)
        self.assertEqual(rows[2], [3, 0, 0])
        self.assertEqual(rows[4:], AFTER_RESET)


class SetGetTest(unittest.TestCase):
    def kept(self, which, value):
        rows = ask([[0], [1, which, value], [2, which]])
        self.assertEqual(rows[1], [0])
        return rows[2]

    def test_written_out(self):
        self.assertEqual(answers([0, 1, 1, 77, 2, 1]), [1, 0, 1, 0, 2, 0, 77])

    def test_registers_and_i_as_they_are(self):
        for which in (0, 1, 2, 4):
            for value in (0, 1, 0x12345677, NONE, ALL):
                self.assertEqual(self.kept(which, value), [0, value])

    def test_processes_are_taken_down_to_multiples_of_4(self):
        for which in (3, 7, 8):
            for value, down in ((0, 0), (3, 0), (4, 4), (0x12345677, 0x12345674), (NONE + 3, NONE), (ALL, ALL - 3)):
                self.assertEqual(self.kept(which, value), [0, down])

    def test_operand_has_no_lowest_four_bits(self):
        for value, down in ((0, 0), (15, 0), (16, 16), (0x12345677, 0x12345670), (ALL, 0xFFFFFFF0)):
            self.assertEqual(self.kept(5, value), [0, down])

    def test_error_is_the_lowest_bit(self):
        for value, bit in ((0, 0), (1, 1), (2, 0), (3, 1), (NONE, 0), (ALL, 1)):
            self.assertEqual(self.kept(6, value), [0, bit])

    def test_error_is_set_back(self):
        self.assertEqual(ask([[0], [1, 6, 1], [1, 6, 2], [2, 6]])[3], [0, 0])

    def test_each_is_its_own(self):
        before = dict(zip(NAMES, (1, 2, 3, 4, 5, 0x60, 1, 8, 12)))
        rows = ask([[0]] + sets_for(before) + gets())
        self.assertEqual(rows[10:], [[0, before[name]] for name in NAMES])

    def test_which_that_is_none_is_refused(self):
        before = dict(zip(NAMES, (1, 2, 3, 4, 5, 0x60, 1, 8, 12)))
        for which in BEYOND:
            rows = ask([[0]] + sets_for(before) + [[1, which, 99], [2, which]] + gets())
            self.assertEqual(rows[10:12], [[-2], [-2]])
            self.assertEqual(rows[12:], [[0, before[name]] for name in NAMES])

    def test_refusal_is_one_number(self):
        self.assertEqual(answers([0, 1, 9, 5, 2, -1]), [1, 0, 1, -2, 1, -2])


class RunCallTest(unittest.TestCase):
    def test_written_out(self):
        line = [0, 1, 3, 64, 3, 2, 2, 0x45, 0xD0, 2, 0]
        self.assertEqual(answers(line), [1, 0, 1, 0, 5, 2, 0, 2, 64, 5, 2, 0, 0])

    def test_steps_out_of_range_are_refused(self):
        before = {name: ORDINARY[name] for name in NAMES}
        for steps in (-2147483648, -1, 1000001, 2147483647):
            rows = ask([[0]] + sets_for(before) + [[3, steps, [0x41, 0xD0, 3, 0, 2]]] + gets())
            self.assertEqual(rows[10], [-2])
            self.assertEqual(rows[11:], [[0, before[name]] for name in NAMES])

    def test_no_steps(self):
        self.assertEqual(ask([[0], [1, 3, 64], [3, 0, [0x41]], [2, 4]])[2:], [[0, 0, 0], [0, 0]])

    def test_a_million_steps(self):
        rows = ask([[0], [1, 3, 64], [3, 1000000, [0x60, 0x0E]], [2, 4]])
        self.assertEqual(rows[2:], [[1000000, 0, 0], [0, 0]])

    def test_no_memory_is_all_zeros(self):
        # A byte of 0 goes on at the next one, as far as there is memory.
        rows = ask([[0], [1, 3, 64], [3, 1000000, []], [2, 4]])
        self.assertEqual(rows[2:], [[65536, 2, 0], [0, 65536]])

    def test_memory_of_1024_bytes(self):
        memory = [0] * 1022 + [0x47, 0xD0]
        rows = ask([[0], [1, 3, 0xFFFC], [3, 1024, memory], [2, 4]])
        self.assertEqual(rows[2:], [[1024, 0, 2, 0xFFFC, 7], [0, 1024]])

    def test_memory_is_told_anew(self):
        rows = ask([[0], [1, 3, 64], [3, 2, [0x45, 0xD0]], [1, 4, 0], [3, 1, [0x70]], [2, 0]])
        self.assertEqual(rows[4:], [[1, 0, 0], [0, 0]])

    def test_all_else_stays(self):
        calls = [[0], [1, 3, 64], [3, 2, [0x45, 0x21]], [2, 5], [3, 1, [0, 0, 0x42]], [2, 0], [2, 1], [2, 5]]
        rows = ask(calls)
        self.assertEqual(rows[2:], [[2, 0, 0], [0, 16], [1, 0, 0], [0, 18], [0, 5], [0, 0]])

    def test_told_are_only_other_bytes_by_rising_places(self):
        # 01020304H at 44H, 5 at 40H where it stands already, 0 at 48H, 6 at 3CH.
        program = byte_codes(4, 0x01020304) + [0xD1, 0x45, 0xD0, 0x40, 0xD2, 0x46] + byte_codes(13, -1)
        memory = program + [0] * (64 - len(program)) + [5, 0, 0, 0, 9, 3, 9, 1]
        rows = ask([[0], [1, 3, 64], [3, len(program), memory]])
        self.assertEqual(rows[2], [len(program), 0, 6, 60, 6, 68, 4, 70, 2])

    def test_a_byte_changed_and_changed_back_is_not_told(self):
        program = [0x45, 0xD0, 0x40, 0xD0]
        self.assertEqual(ask([[0], [1, 3, 64], [3, 4, program]])[2], [4, 0, 0])

    def test_first_word_of_the_memory(self):
        rows = ask([[0], [1, 3, 0], [1, 0, ALL], [3, 1, [0xD0]]])
        self.assertEqual(rows[3], [1, 0, 8, 0, 255, 1, 255, 2, 255, 3, 255])

    def test_last_word_of_the_memory(self):
        rows = ask([[0], [1, 3, 65532], [1, 0, ALL], [3, 1, [0xD0]]])
        self.assertEqual(rows[3], [1, 0, 8, 65532, 255, 65533, 255, 65534, 255, 65535, 255])

    def test_program_may_change_itself(self):
        # The word 42424242H is put at 4: the bytes there then push 2.
        rows = ask([[0], [1, 3, 0], [1, 0, 0x42424242], [3, 5, [0xD1, 0, 0, 0, 0xFF]], [2, 0]])
        self.assertEqual(rows[3], [5, 0, 8, 4, 0x42, 5, 0x42, 6, 0x42, 7, 0x42])
        self.assertEqual(rows[4], [0, 2])


class WhyTest(unittest.TestCase):
    def run_of(self, steps, memory, w, i=0):
        rows = ask([[0], [1, 3, w], [1, 4, i], [3, steps, memory], [2, 4]])
        self.assertEqual(rows[3][2], 0)
        return rows[3][:2] + rows[4][1:]

    def test_steps_over(self):
        self.assertEqual(self.run_of(1, [0x41], 64), [1, 0, 1])

    def test_nothing_runs(self):
        self.assertEqual(self.run_of(5, [0x41], NONE), [0, 1, 0])

    def test_i_outside(self):
        for i in (65536, NONE, ALL):
            self.assertEqual(self.run_of(5, [0x41], 64, i), [0, 2, i])

    def test_i_at_the_last_byte(self):
        self.assertEqual(self.run_of(5, [0x41], 64, 65535), [1, 2, 65536])

    def test_no_such_operation(self):
        self.assertEqual(self.run_of(5, [0x41, 0x25, 0xFF], 64), [2, 3, 2])

    def test_steps_are_looked_at_first(self):
        self.assertEqual(self.run_of(0, [], NONE), [0, 0, 0])
        self.assertEqual(self.run_of(0, [], 64, 65536), [0, 0, 65536])
        self.assertEqual(self.run_of(2, [0x41, 0x25, 0xFF], 64), [2, 0, 2])
        self.assertEqual(self.run_of(1, [], 64, 65535), [1, 0, 65536])

    def test_nothing_runs_is_looked_at_before_i(self):
        self.assertEqual(self.run_of(5, [], NONE, 65536), [0, 1, 65536])
        self.assertEqual(self.run_of(5, [0x25, 0xFF], NONE, 1), [0, 1, 1])

    def test_steps_are_over_where_the_last_byte_ends_the_last_process(self):
        stop = op(0x15)
        rows = ask([[0], [1, 3, 64], [3, 2, stop], [2, 3], [3, 1, stop]])
        self.assertEqual(rows[2][:2], [2, 0])
        self.assertEqual(rows[3:], [[0, NONE], [0, 1, 0]])

    def test_the_last_process_ends_ahead_of_the_steps(self):
        rows = ask([[0], [1, 3, 64], [3, 3, op(0x15)]])
        self.assertEqual(rows[2], [2, 1, 2, 60, 2])


class InterfaceTest(unittest.TestCase):
    LINE = [0, 1, 3, 64, 1, 0, 5, 3, 9, 4, 0xD0, 0x41, 0xD1, 0x60, 2, 0, 1, 9, 9, 0, 2, 3]

    def test_what_is_handed_in_stays(self):
        line = list(self.LINE)
        answers(line)
        self.assertEqual(line, self.LINE)

    def test_nothing_is_kept_from_one_time_to_the_next(self):
        first = answers(self.LINE)
        answers([0, 1, 0, 99, 3, 1, 1, 0x41])
        self.assertEqual(answers(self.LINE), first)
        self.assertEqual(ask([[0]] + gets())[1:], AFTER_RESET)

    def test_kinds_are_plain(self):
        given = answers(self.LINE)
        self.assertIs(type(given), list)
        self.assertEqual({type(n) for n in given}, {int})

    def test_many_calls(self):
        rows = ask([[0]] + [[1, 0, k] for k in range(149)] + [[2, 0]] * 150)
        self.assertEqual(rows[150:], [[0, 148]] * 150)


if __name__ == "__main__":
    unittest.main()
