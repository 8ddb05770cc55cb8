"""What the tests share: writing lists of calls, reading answers, and asking of one piece of program all that it did."""

import unittest

from chanqueue.machine import answers

NONE = 0x80000000
ENABLING = 0x80000001
WAITING = 0x80000002
READY = 0x80000003
ALL = 0xFFFFFFFF
LEAST = 0x80000000
MOST = 0x7FFFFFFF

# The operations that the document lists.
LISTED = (
    0x00, 0x5A, 0x42, 0x02, 0x52, 0x04, 0x08, 0x05, 0x0C, 0x53, 0x16, 0x38, 0x2C, 0x1F, 0x09, 0x0A, 0x34, 0x33,
    0x46, 0x4B, 0x32, 0x40, 0x41, 0x31, 0x1A, 0x37, 0x4F, 0x35, 0x36, 0x1D, 0x3A, 0x4C, 0x56, 0x13, 0x4D, 0x3F,
    0x10, 0x29, 0x55, 0x01, 0x3B, 0x4A, 0x1B, 0x06, 0x3C, 0x20, 0x21, 0x0D, 0x03, 0x15, 0x39, 0x12, 0x07, 0x0B,
    0x0E, 0x0F, 0x43, 0x48, 0x49, 0x44, 0x2F, 0x30, 0x45,
)

NAMES = ("a", "b", "c", "w", "i", "operand", "error", "first", "last")

ORDINARY = {
    "a": 0x11111111, "b": 0x22222222, "c": 0x33333333,
    "w": 0x200, "i": 0x10, "operand": 0, "error": 0, "first": NONE, "last": NONE,
    "words": {}, "bytes": {},
}


def byte_codes(kind, operand):
    """A byte of this kind with this operand, behind as many prefixes as it needs."""
    if operand < 0:
        operand += 1 << 32
    if operand < 16:
        return [kind << 4 | operand]
    if operand >= 0xFFFFFF00:
        turned = (operand ^ ALL) >> 4
        return byte_codes(6, turned) + [kind << 4 | operand & 15]
    return byte_codes(2, operand >> 4) + [kind << 4 | operand & 15]


def op(number):
    return byte_codes(15, number)


def word_bytes(value):
    return [value >> shift & 255 for shift in (0, 8, 16, 24)]


def image(words, rows):
    """Memory as a dict of the places that are written, later rows over earlier ones."""
    cells = {}
    for place in words:
        for k, byte in enumerate(word_bytes(words[place])):
            cells[place + k] = byte
    for place in rows:
        cells[place] = rows[place]
    return cells


def split_answers(given):
    """The list given back, as one list for each call."""
    rows = []
    at = 0
    while at < len(given):
        count = given[at]
        rows.append(given[at + 1:at + 1 + count])
        assert len(rows[-1]) == count
        at += 1 + count
    return rows


def ask(calls):
    """calls is a list of lists; a run's memory is counted here."""
    line = []
    for call in calls:
        if call[0] == 3:
            line.extend([3, call[1], len(call[2])])
            line.extend(call[2])
        else:
            line.extend(call)
    return split_answers(answers(line))


def sets_for(before):
    return [[1, which, before[name]] for which, name in enumerate(NAMES)]


def gets():
    return [[2, which] for which in range(9)]


def memory_row(cells):
    row = [0] * (max(cells) + 1 if cells else 0)
    for place in cells:
        row[place] = cells[place]
    assert len(row) <= 1024
    return row


class Outcome:
    def __init__(self, rows):
        run = rows[-10]
        self.done = run[0]
        self.why = run[1]
        assert run[2] == len(run) - 3
        self.changes = [(run[k], run[k + 1]) for k in range(3, len(run), 2)]
        self.values = {name: row[1] for name, row in zip(NAMES, rows[-9:])}


def outcome(program, before, steps):
    cells = image(before["words"], before["bytes"])
    for k, byte in enumerate(program):
        assert before["i"] + k not in cells
        cells[before["i"] + k] = byte
    calls = [[0]] + sets_for(before) + [[3, steps, memory_row(cells)]] + gets()
    return Outcome(ask(calls)), cells


def filled(before):
    whole = dict(ORDINARY)
    whole.update(before)
    return whole


class MachineTest(unittest.TestCase):
    def does(self, program, before, after):
        """The program's bytes are all done; what `after` doesn't tell is as it was, but for i."""
        before = filled(before)
        got, cells = outcome(program, before, len(program))
        wanted = {name: before[name] for name in NAMES}
        wanted["i"] = before["i"] + len(program)
        wanted.update({name: after[name] for name in after if name in NAMES})
        later = image(after.get("words", {}), after.get("bytes", {}))
        changes = [(place, later[place]) for place in sorted(later) if later[place] != cells.get(place, 0)]
        self.assertEqual((got.done, got.why), (len(program), 0))
        self.assertEqual(got.values, wanted)
        self.assertEqual(got.changes, changes)

    def stops(self, program, before, why):
        """All bytes but the last are done; the last one stops the run and does nothing."""
        before = filled(before)
        count = len(program) - 1
        ahead = outcome(program, before, count)[0]
        got = outcome(program, before, count + 3)[0]
        self.assertEqual((ahead.done, ahead.why), (count, 0))
        self.assertEqual((got.done, got.why), (count, why))
        self.assertEqual(got.values, ahead.values)
        self.assertEqual(got.changes, ahead.changes)
        self.assertEqual(got.values["i"], before["i"] + count)

    def outside(self, program, before):
        self.stops(program, before, 2)
