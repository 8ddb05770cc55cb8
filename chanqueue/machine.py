"""The calls on one machine, read from one list and answered in one list."""

from chanqueue.direct import all_operations, do_byte
from chanqueue.state import MEMORY_SIZE, NoSuchOperation, Outside, State
from chanqueue.words import NONE

RESET = 0
SET = 1
GET = 2

MOST_STEPS = 1000000
PIECE = 1024

STEPS_OVER = 0
NOTHING_RUNS = 1
IS_OUTSIDE = 2
NO_OPERATION = 3

# The bits that set keeps, by which: places of processes are multiples of 4.
KEPT_BITS = (
    0xFFFFFFFF, 0xFFFFFFFF, 0xFFFFFFFF,
    0xFFFFFFFC, 0xFFFFFFFF, 0xFFFFFFF0,
    1, 0xFFFFFFFC, 0xFFFFFFFC,
)


def refusal():
    return [-2]


def is_which(which):
    return which >= 0 and which < len(KEPT_BITS)


def answer_set(state, which, x):
    if not is_which(which):
        return refusal()
    contents = list(state.contents())
    contents[which] = x & KEPT_BITS[which]
    state.put_contents(contents)
    return [0]


def answer_get(state, which):
    if not is_which(which):
        return refusal()
    return [0, state.contents()[which]]


def do_bytes(state, steps):
    done = 0
    kept = state.contents()
    try:
        while done < steps:
            if state.w == NONE:
                return [done, NOTHING_RUNS]
            kept = state.begin_byte()
            do_byte(state)
            done += 1
    except Outside:
        state.take_back(kept)
        return [done, IS_OUTSIDE]
    except NoSuchOperation:
        state.take_back(kept)
        return [done, NO_OPERATION]
    return [done, STEPS_OVER]


# Most of the memory is as it was: whole pieces of it are compared at once.
def changed_bytes(before, after):
    changes = []
    for start in range(0, MEMORY_SIZE, PIECE):
        if before[start:start + PIECE] != after[start:start + PIECE]:
            for place in range(start, start + PIECE):
                if before[place] != after[place]:
                    changes.append(place)
                    changes.append(after[place])
    return changes


def answer_run(state, steps, memory):
    if steps < 0 or steps > MOST_STEPS:
        return refusal()
    before = memory + [0] * (MEMORY_SIZE - len(memory))
    state.cells = list(before)
    answer = do_bytes(state, steps)
    changes = changed_bytes(before, state.cells)
    answer.append(len(changes))
    answer.extend(changes)
    return answer


def answers(calls):
    given = []
    state = State(all_operations())
    at = 0
    while at < len(calls):
        call = calls[at]
        if call == RESET:
            state = State(all_operations())
            answer = [0]
            at += 1
        elif call == SET:
            answer = answer_set(state, calls[at + 1], calls[at + 2])
            at += 3
        elif call == GET:
            answer = answer_get(state, calls[at + 1])
            at += 2
        else:
            end = at + 3 + calls[at + 2]
            answer = answer_run(state, calls[at + 1], calls[at + 3:end])
            at = end
        given.append(len(answer))
        given.extend(answer)
    return given
