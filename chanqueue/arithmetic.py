"""Operations that reckon with words: sums, divisions, bits, comparisons and their errors."""

from chanqueue.words import HALF, MASK, NONE, signed


def reverse_two(state):
    kept = state.a
    state.a = state.b
    state.b = kept


def duplicate(state):
    state.push(state.a)


def push_least(state):
    state.push(NONE)


def add_round(state):
    state.two_become(state.a + state.b)


def subtract_round(state):
    state.two_become(state.b - state.a)


def multiply_round(state):
    state.two_become(state.a * state.b)


def two_checked(state, x):
    state.two_become(state.checked(x))


def add_checked(state):
    two_checked(state, signed(state.b) + signed(state.a))


def subtract_checked(state):
    two_checked(state, signed(state.b) - signed(state.a))


def multiply_checked(state):
    two_checked(state, signed(state.b) * signed(state.a))


def add_carry_checked(state):
    two_checked(state, signed(state.b) + signed(state.a) + (state.c & 1))


def subtract_borrow_checked(state):
    two_checked(state, signed(state.b) - signed(state.a) - (state.c & 1))


def can_divide(state):
    if state.a == 0:
        return False
    return state.a != MASK or state.b != HALF


# Python rounds down, the machine towards 0: so the signs are put on afterwards.
def divide(state):
    if not can_divide(state):
        state.error = 1
        state.drop()
        return
    a = signed(state.a)
    b = signed(state.b)
    quotient = abs(b) // abs(a)
    if (a < 0) != (b < 0):
        quotient = -quotient
    state.two_become(quotient)


def remainder(state):
    if not can_divide(state):
        state.error = 1
        state.drop()
        return
    b = signed(state.b)
    rest = abs(b) % abs(signed(state.a))
    if b < 0:
        rest = -rest
    state.two_become(rest)


def greater_than(state):
    if signed(state.a) < signed(state.b):
        state.two_become(1)
    else:
        state.two_become(0)


def word_place(state):
    state.two_become(state.a + 4 * state.b)


def byte_count(state):
    state.a = 4 * state.a & MASK


def exclusive_or(state):
    state.two_become(state.a ^ state.b)


def bit_and(state):
    state.two_become(state.a & state.b)


def bit_or(state):
    state.two_become(state.a | state.b)


def bit_not(state):
    state.a = state.a ^ MASK


# Distances of shifts go up to 2^32: a long one must not be carried out.
def shift_right(state):
    if state.a >= 32:
        state.two_become(0)
    else:
        state.two_become(state.b >> state.a)


def shift_left(state):
    if state.a >= 32:
        state.two_become(0)
    else:
        state.two_become(state.b << state.a)


def extend_word(state):
    a = state.a
    b = state.b
    if b < a:
        state.two_become(b)
    else:
        state.two_become(b - 2 * a)


def check_word(state):
    a = signed(state.a)
    b = signed(state.b)
    state.error_where(b < -a or b > a - 1)
    state.drop()


def check_subscript(state):
    state.error_where(state.b >= state.a)
    state.drop()


def check_count(state):
    state.error_where(state.b == 0 or state.b > state.a)
    state.drop()


def word_count(state):
    a = state.a
    state.c = state.b
    state.b = a & 3
    state.a = signed(a) >> 2 & MASK


def set_error(state):
    state.error = 1


def test_error(state):
    state.push(1 - state.error)
    state.error = 0


WORD_OPERATIONS = {
    0x00: reverse_two,
    0x02: add_round,
    0x04: subtract_round,
    0x05: add_checked,
    0x08: multiply_round,
    0x09: greater_than,
    0x0A: word_place,
    0x0C: subtract_checked,
    0x10: set_error,
    0x13: check_subscript,
    0x16: add_carry_checked,
    0x1F: remainder,
    0x29: test_error,
    0x2C: divide,
    0x32: bit_not,
    0x33: exclusive_or,
    0x34: byte_count,
    0x38: subtract_borrow_checked,
    0x3A: extend_word,
    0x3F: word_count,
    0x40: shift_right,
    0x41: shift_left,
    0x42: push_least,
    0x46: bit_and,
    0x4B: bit_or,
    0x4D: check_count,
    0x52: add_round,
    0x53: multiply_checked,
    0x56: check_word,
    0x5A: duplicate,
}
