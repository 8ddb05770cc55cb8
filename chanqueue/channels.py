"""Channels: in and out, and the choices among several of them."""

from chanqueue.words import ENABLING, NONE, READY, UNCHOSEN, WAITING
from chanqueue.processes import to_queue_end, wait


def wait_at_channel(state, channel, place):
    state.write_word(channel, state.w)
    state.write_word(state.w - 12, place)
    wait(state)


def finish_transfer(state, channel, process):
    state.write_word(channel, NONE)
    to_queue_end(state, process)


def bytes_in(state, count, channel, place):
    other = state.read_word(channel)
    if other == NONE:
        wait_at_channel(state, channel, place)
        return
    state.move_bytes(count, state.read_word(other - 12), place)
    finish_transfer(state, channel, other)


def bytes_out(state, count, channel, place):
    other = state.read_word(channel)
    if other == NONE:
        wait_at_channel(state, channel, place)
        return
    target = state.read_word(other - 12)
    if target == ENABLING or target == WAITING or target == READY:
        out_to_choice(state, channel, place, other, target)
        return
    state.move_bytes(count, place, target)
    finish_transfer(state, channel, other)


def out_to_choice(state, channel, place, other, choice):
    if choice != READY:
        state.write_word(other - 12, READY)
    if choice == WAITING:
        to_queue_end(state, other)
    wait_at_channel(state, channel, place)


def input_message(state):
    bytes_in(state, state.a, state.b, state.c)


def output_message(state):
    bytes_out(state, state.a, state.b, state.c)


def output_byte(state):
    state.write_word(state.w, state.a & 255)
    bytes_out(state, 1, state.b, state.w)


def output_word(state):
    state.write_word(state.w, state.a)
    bytes_out(state, 4, state.b, state.w)


def reset_channel(state):
    place = state.a
    state.a = state.read_word(place)
    state.write_word(place, NONE)


def begin_choice(state):
    state.write_word(state.w - 12, ENABLING)


def enable_channel(state):
    if state.a != 0:
        other = state.read_word(state.b)
        if other == NONE:
            state.write_word(state.b, state.w)
        elif other != state.w:
            state.write_word(state.w - 12, READY)
    state.b = state.c


def enable_skip(state):
    if state.a != 0:
        state.write_word(state.w - 12, READY)


def wait_for_choice(state):
    state.write_word(state.w, UNCHOSEN)
    if state.read_word(state.w - 12) != READY:
        state.write_word(state.w - 12, WAITING)
        wait(state)


# The first branch that is ready is chosen: later ones find the word taken.
def choose(state, distance):
    if state.read_word(state.w) != UNCHOSEN:
        return 0
    state.write_word(state.w, distance)
    return 1


def disable_channel(state):
    distance = state.a
    state.a = 0
    if state.b == 0:
        return
    other = state.read_word(state.c)
    if other == state.w:
        state.write_word(state.c, NONE)
    elif other != NONE:
        state.a = choose(state, distance)


# w's word is looked at even where the condition is 0: it may be outside.
def disable_skip(state):
    chosen = state.read_word(state.w)
    if state.b != 0 and chosen == UNCHOSEN:
        state.write_word(state.w, state.a)
        state.two_become(1)
    else:
        state.two_become(0)


def end_choice(state):
    state.go_to(state.i + state.read_word(state.w))


CHANNEL_OPERATIONS = {
    0x07: input_message,
    0x0B: output_message,
    0x0E: output_byte,
    0x0F: output_word,
    0x12: reset_channel,
    0x2F: disable_channel,
    0x30: disable_skip,
    0x43: begin_choice,
    0x44: wait_for_choice,
    0x45: end_choice,
    0x48: enable_channel,
    0x49: enable_skip,
}
