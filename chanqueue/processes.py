"""The queue of processes, waiting, and the operations that start and end processes."""

from chanqueue.words import NONE, WORD_DOWN


def to_queue_end(state, process):
    process = process & WORD_DOWN
    if state.first == NONE:
        state.first = process
    else:
        state.write_word(state.last - 8, process)
    state.last = process


def next_runs(state):
    process = state.first
    state.w = process
    if process == NONE:
        return
    state.i = state.read_word(process - 4)
    if process == state.last:
        state.first = NONE
        state.last = NONE
    else:
        state.first = state.read_word(process - 8) & WORD_DOWN


def wait(state):
    state.write_word(state.w - 4, state.i)
    next_runs(state)


def start_process(state):
    state.write_word(state.a - 4, state.i + state.b)
    to_queue_end(state, state.a)
    state.both_become_c()


def end_process(state):
    place = state.a
    count = state.read_word(place + 4)
    state.write_word(place + 4, count - 1)
    if count == 1:
        state.w = place & WORD_DOWN
        state.i = state.read_word(place)
    else:
        next_runs(state)


def run_process(state):
    to_queue_end(state, state.a)
    state.drop()


def stop_on_error(state):
    if state.error == 1:
        wait(state)


PROCESS_OPERATIONS = {
    0x03: end_process,
    0x0D: start_process,
    0x15: wait,
    0x39: run_process,
    0x55: stop_on_error,
}
