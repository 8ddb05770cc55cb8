"""Over many made programs: a byte that stops the run does nothing, and runs can be cut in two."""

import random
import unittest

from line import ALL, LISTED, NAMES, NONE, ask, byte_codes, filled, gets, op, sets_for

SPECIAL = (0, 1, 2, 3, 4, 0x7FFFFFFF, NONE, NONE + 1, NONE + 2, NONE + 3, ALL, ALL - 3, 65532, 65535, 65536, 65540)


def some_number(chance):
    kind = chance.randrange(6)
    if kind == 0:
        return chance.choice(SPECIAL)
    if kind == 1:
        return chance.randrange(1 << 32)
    return chance.randrange(0x100, 0x400)


def some_program(chance):
    program = []
    while len(program) < 0xE0:
        kind = chance.randrange(5)
        if kind == 0:
            program += byte_codes(chance.choice((1, 3, 4, 5, 7, 8, 9, 11, 12, 13, 14)), chance.randrange(-4, 20))
        elif kind == 1:
            program += byte_codes(4, some_number(chance))
        elif kind == 2:
            program += byte_codes(chance.choice((0, 10)), chance.randrange(0, 9))
        else:
            program += op(chance.choice(LISTED))
    return program


def some_before(chance):
    before = {name: some_number(chance) for name in ("a", "b", "c")}
    before["w"] = chance.choice((chance.randrange(0x100, 0x400), chance.randrange(0x100, 0x400), 0, 4, 8, 65536, 65540))
    before["i"] = 0
    before["error"] = chance.randrange(2)
    before["first"] = chance.choice((NONE, 0, 4, chance.randrange(0x100, 0x400)))
    before["last"] = chance.choice((before["first"], 0, 4, chance.randrange(0x100, 0x400)))
    return filled(before)


def some_memory(chance):
    row = some_program(chance)
    row = row[:0x100] + [0] * (0x100 - len(row))
    while len(row) < 1024:
        x = some_number(chance)
        row += [x & 255, x >> 8 & 255, x >> 16 & 255, x >> 24]
    return row


def run_of(before, memory, steps):
    rows = ask([[0]] + sets_for(before) + [[3, steps, memory]] + gets())
    return rows[10], [row[1] for row in rows[11:]]


class StopsTest(unittest.TestCase):
    def setUp(self):
        self.chance = random.Random(20)

    def test_the_byte_that_stops_does_nothing(self):
        seen = {1: 0, 2: 0, 3: 0}
        for turn in range(700):
            before = some_before(self.chance)
            memory = some_memory(self.chance)
            run, values = run_of(before, memory, 300)
            if run[1] != 0:
                seen[run[1]] += 1
                self.assertEqual(run_of(before, memory, run[0]), ([run[0], 0] + run[2:], values), turn)
        self.assertTrue(seen[1] > 5 and seen[2] > 200, seen)

    def test_a_run_in_two_parts_is_one_run(self):
        cut = 0
        for turn in range(300):
            before = some_before(self.chance)
            memory = some_memory(self.chance)
            whole, values = run_of(before, memory, 60)
            first, between = run_of(before, memory, whole[0] // 2)
            later = list(memory)
            places = first[3::2]
            if any(place >= 1024 for place in places):
                continue
            for place, byte in zip(places, first[4::2]):
                later[place] = byte
            second, after = run_of(dict(zip(NAMES, between)), later, 60 - first[0])
            self.assertEqual((first[0] + second[0], second[1], after), (whole[0], whole[1], values), turn)
            cut += 1
        self.assertGreater(cut, 200)

    def test_all_values_are_in_range(self):
        for turn in range(200):
            run, values = run_of(some_before(self.chance), some_memory(self.chance), 200)
            self.assertEqual([x for x in values if x < 0 or x > ALL], [], turn)
            self.assertEqual([values[k] & 3 for k in (3, 7, 8)] + [values[5] & 15, values[6] >> 1], [0] * 5, turn)
            self.assertEqual(run[3::2], sorted(set(run[3::2])))
            self.assertEqual([x for x in run[4::2] if x < 0 or x > 255], [])


if __name__ == "__main__":
    unittest.main()
