"""Choices: which names each unknown may stand for.

They are one whole number, with sixteen bits for each unknown, a bit for each name. If some unknown has no bit left
there is no choice at all, and the number is 0.
"""

NAMES = 16
UNKNOWNS_OF_A_PART = 4
# Names and unknowns are a term's leaves. They are numbered in one row: the names, then the unknowns, part by part.
LEAVES = 32

EVERY_NAME = 0xFFFF
EVERY_CHOICE = 0xFFFFFFFFFFFFFFFFFFFFFFFFFFFFFFFFFFFFFFFFFFFFFFFFFFFFFFFFFFFFFFFF
# The lowest bit of each unknown.
LOWEST = 0x0001000100010001000100010001000100010001000100010001000100010001


def leaf_of(part, unknown):
    return NAMES + part * UNKNOWNS_OF_A_PART + unknown


def shift_of(leaf):
    return (leaf - NAMES) * NAMES


def mask_of(choices, leaf):
    if leaf < NAMES:
        return 1 << leaf
    return (choices >> shift_of(leaf)) & EVERY_NAME


def with_mask(choices, leaf, mask):
    if mask == 0:
        return 0
    if leaf < NAMES:
        return choices
    return (choices & ~(EVERY_NAME << shift_of(leaf))) | (mask << shift_of(leaf))


def with_name(choices, leaf, name):
    return with_mask(choices, leaf, 1 << name)


def without_name(choices, leaf, name):
    return with_mask(choices, leaf, mask_of(choices, leaf) & ~(1 << name))


def names_of(choices, leaf):
    mask = mask_of(choices, leaf)
    return [name for name in range(NAMES) if (mask >> name) & 1 == 1]


# To see that each unknown has a bit left, its bits are folded onto its lowest one, those of all unknowns at a time.
def in_both(some, others):
    left = some & others
    folded = left | (left >> 8)
    folded = folded | (folded >> 4)
    folded = folded | (folded >> 2)
    folded = folded | (folded >> 1)
    return left if (folded & LOWEST) == LOWEST else 0


# The choices by which the two leaves of each pair stand for one name.
def where_equal(choices, pairs):
    for one, other in pairs:
        mask = mask_of(choices, one) & mask_of(choices, other)
        choices = with_mask(with_mask(choices, one, mask), other, mask)
        if choices == 0:
            return 0
    return choices
