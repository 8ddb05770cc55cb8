"""What the machine holds: registers, the queue's two ends, and the memory of one run."""

from chanqueue.words import MASK, NONE, WORD_DOWN, fits

MEMORY_SIZE = 65536


class Outside(Exception):
    pass


class NoSuchOperation(Exception):
    pass


class State:
    def __init__(self, operations):
        self.operations = operations
        self.a = 0
        self.b = 0
        self.c = 0
        self.w = NONE
        self.i = 0
        self.operand = 0
        self.error = 0
        self.first = NONE
        self.last = NONE
        self.cells = []
        self.undo = []

    def push(self, x):
        self.c = self.b
        self.b = self.a
        self.a = x & MASK

    def drop(self):
        self.a = self.b
        self.b = self.c

    def two_become(self, x):
        self.a = x & MASK
        self.b = self.c

    def both_become_c(self):
        self.a = self.c
        self.b = self.c

    # Some results are told as errors where they don't fit; they go round all the same.
    def checked(self, x):
        if not fits(x):
            self.error = 1
        return x & MASK

    def error_where(self, wrong):
        if wrong:
            self.error = 1

    def go_to(self, place):
        self.i = place & MASK

    def read_word(self, place):
        place = place & WORD_DOWN
        if place >= MEMORY_SIZE:
            raise Outside()
        cells = self.cells
        return cells[place] | cells[place + 1] << 8 | cells[place + 2] << 16 | cells[place + 3] << 24

    def write_word(self, place, x):
        place = place & WORD_DOWN
        if place >= MEMORY_SIZE:
            raise Outside()
        cells = self.cells
        self.undo.append((place, cells[place:place + 4]))
        cells[place] = x & 255
        cells[place + 1] = x >> 8 & 255
        cells[place + 2] = x >> 16 & 255
        cells[place + 3] = x >> 24 & 255

    def read_bytes(self, place, count):
        # Of no bytes none is looked at, so their place may lie anywhere.
        if count == 0:
            return []
        # A row of bytes can't come round to 0 without one that is outside.
        if place + count > MEMORY_SIZE:
            raise Outside()
        return self.cells[place:place + count]

    def write_bytes(self, place, row):
        if row == []:
            return
        end = place + len(row)
        if end > MEMORY_SIZE:
            raise Outside()
        self.undo.append((place, self.cells[place:end]))
        self.cells[place:end] = row

    def move_bytes(self, count, source, target):
        self.write_bytes(target, self.read_bytes(source, count))

    # In the order in which set and get number them.
    def contents(self):
        return (self.a, self.b, self.c, self.w, self.i, self.operand, self.error, self.first, self.last)

    def put_contents(self, contents):
        self.a = contents[0]
        self.b = contents[1]
        self.c = contents[2]
        self.w = contents[3]
        self.i = contents[4]
        self.operand = contents[5]
        self.error = contents[6]
        self.first = contents[7]
        self.last = contents[8]

    # A byte that stops the run does nothing, and may find that out late:
    # what it changes is kept from before it, to be brought back.
    def begin_byte(self):
        self.undo = []
        return self.contents()

    def take_back(self, kept):
        self.put_contents(kept)
        # One byte may write a place twice: the oldest content is put back last.
        for place, row in reversed(self.undo):
            self.cells[place:place + len(row)] = row
        self.undo = []
