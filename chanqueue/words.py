"""Whole numbers of 32 bits, and what the machine's special ones are called."""

MASK = 0xFFFFFFFF
WORD_DOWN = 0xFFFFFFFC
HALF = 0x80000000

NONE = 0x80000000
ENABLING = 0x80000001
WAITING = 0x80000002
READY = 0x80000003
UNCHOSEN = 0xFFFFFFFF


def signed(x):
    if x >= HALF:
        return x - HALF - HALF
    return x


def sign_word(x):
    if x >= HALF:
        return MASK
    return 0


def fits(x):
    return x >= -HALF and x < HALF
