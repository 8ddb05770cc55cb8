"""The sixteen kinds of byte, and the one that stands for all operations."""

from chanqueue.arithmetic import WORD_OPERATIONS
from chanqueue.channels import CHANNEL_OPERATIONS
from chanqueue.places import PLACE_OPERATIONS
from chanqueue.processes import PROCESS_OPERATIONS
from chanqueue.state import MEMORY_SIZE, NoSuchOperation, Outside
from chanqueue.wide import WIDE_OPERATIONS
from chanqueue.words import MASK, signed


def all_operations():
    table = dict(WORD_OPERATIONS)
    table.update(dict(WIDE_OPERATIONS))
    table.update(dict(PLACE_OPERATIONS))
    table.update(dict(PROCESS_OPERATIONS))
    table.update(dict(CHANNEL_OPERATIONS))
    return table


def jump(state, o):
    state.go_to(state.i + o)


def load_local_place(state, o):
    state.push(state.w + 4 * o)


def prefix(state, o):
    state.operand = o << 4 & MASK


def load_word_at(state, o):
    state.a = state.read_word(state.a + 4 * o)


def load_constant(state, o):
    state.push(o)


def load_place_at(state, o):
    state.a = state.a + 4 * o & MASK


def negative_prefix(state, o):
    state.operand = (o ^ MASK) << 4 & MASK


def load_local(state, o):
    state.push(state.read_word(state.w + 4 * o))


def add_constant(state, o):
    state.a = state.checked(signed(state.a) + signed(o))


def call(state, o):
    w = state.w - 16 & MASK
    state.write_word(w, state.i)
    state.write_word(w + 4, state.a)
    state.write_word(w + 8, state.b)
    state.write_word(w + 12, state.c)
    state.w = w
    state.a = state.i
    state.go_to(state.i + o)


def jump_where_zero(state, o):
    if state.a == 0:
        state.go_to(state.i + o)
    else:
        state.drop()


def adjust_workspace(state, o):
    state.w = state.w + 4 * o & MASK


def equals_constant(state, o):
    state.a = 1 if state.a == o else 0


def store_local(state, o):
    state.write_word(state.w + 4 * o, state.a)
    state.drop()


def store_word_at(state, o):
    state.write_word(state.a + 4 * o, state.b)
    state.both_become_c()


def operate(state, o):
    operation = state.operations.get(o)
    if operation is None:
        raise NoSuchOperation()
    operation(state)


KINDS = (
    jump, load_local_place, prefix, load_word_at,
    load_constant, load_place_at, negative_prefix, load_local,
    add_constant, call, jump_where_zero, adjust_workspace,
    equals_constant, store_local, store_word_at, operate,
)


def do_byte(state):
    place = state.i
    if place >= MEMORY_SIZE:
        raise Outside()
    byte = state.cells[place]
    o = state.operand | byte & 15
    state.i = place + 1
    state.operand = 0
    KINDS[byte >> 4](state, o)
