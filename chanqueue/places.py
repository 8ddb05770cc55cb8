"""Operations on bytes of the memory, on w and on i."""

from chanqueue.words import MASK, WORD_DOWN, signed


def load_byte(state):
    state.a = state.read_bytes(state.a, 1)[0]


def store_byte(state):
    state.write_bytes(state.a, [state.b & 255])
    state.both_become_c()


def move_message(state):
    state.move_bytes(state.a, state.c, state.b)
    state.both_become_c()


def load_place_from_here(state):
    state.a = state.i + state.a & MASK


def general_call(state):
    kept = state.a
    state.a = state.i
    state.i = kept


def general_workspace(state):
    kept = state.a
    state.a = state.w
    state.w = kept & WORD_DOWN


def return_from_call(state):
    state.i = state.read_word(state.w)
    state.w = state.w + 16 & MASK


def loop_end(state):
    place = state.b
    count = state.read_word(place + 4)
    state.write_word(place + 4, count - 1)
    if signed(count) > 1:
        state.write_word(place, state.read_word(place) + 1)
        state.go_to(state.i - state.a)


PLACE_OPERATIONS = {
    0x01: load_byte,
    0x06: general_call,
    0x1B: load_place_from_here,
    0x20: return_from_call,
    0x21: loop_end,
    0x3B: store_byte,
    0x3C: general_workspace,
    0x4A: move_message,
}
