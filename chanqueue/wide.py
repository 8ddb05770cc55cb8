"""Operations on 64 bits, which stand in two registers."""

from chanqueue.words import MASK, sign_word


# C stays as it was in all of these but the one that makes two words of one.
def put_wide(state, x):
    state.a = x & MASK
    state.b = x >> 32 & MASK


def wide_of_c_and_b(state):
    return state.c << 32 | state.b


def multiply_wide(state):
    put_wide(state, state.a * state.b + state.c)


def divide_wide(state):
    if state.a <= state.c:
        state.error = 1
        return
    whole = wide_of_c_and_b(state)
    by = state.a
    state.a = whole // by
    state.b = whole % by


def add_wide(state):
    put_wide(state, state.a + state.b + (state.c & 1))


def subtract_wide(state):
    difference = state.b - state.a - (state.c & 1)
    state.a = difference & MASK
    state.b = 1 if difference < 0 else 0


def shift_wide_right(state):
    if state.a >= 64:
        put_wide(state, 0)
    else:
        put_wide(state, wide_of_c_and_b(state) >> state.a)


def shift_wide_left(state):
    if state.a >= 64:
        put_wide(state, 0)
    else:
        put_wide(state, wide_of_c_and_b(state) << state.a)


def make_wide(state):
    state.c = state.b
    state.b = sign_word(state.a)


def make_narrow(state):
    state.error_where(state.b != sign_word(state.a))
    state.two_become(state.a)


WIDE_OPERATIONS = {
    0x1A: divide_wide,
    0x1D: make_wide,
    0x31: multiply_wide,
    0x35: shift_wide_right,
    0x36: shift_wide_left,
    0x37: add_wide,
    0x4C: make_narrow,
    0x4F: subtract_wide,
}
