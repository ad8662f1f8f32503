"""Choices: which names each unknown may stand for.

They are one whole number, with sixteen bits for each unknown, a bit for each name. If some unknown has no bit left
there is no choice at all, and the number is 0.
"""

NAMES = 16
UNKNOWNS_OF_A_PART = 4
# Names and unknowns are a term's leaves. They are numbered in one row: the names, then the unknowns, part by part.
LEAVES = 32

EVERY_NAME = 0xFFFF
EVERY_CHOICE = 0xFFFFFFFFFFFFFFFFFFFFFFFFFFFFFFFFFFFFFFFFFFFFFFFFFFFFFFFFFFFFFFFF
# The lowest bit of each unknown.
LOWEST = 0x0001000100010001000100010001000100010001000100010001000100010001


def leaf_of(part, unknown):
    return NAMES + part * UNKNOWNS_OF_A_PART + unknown


def mask_of(choices, leaf):
    if leaf < NAMES:
        return 1 << leaf
    return (choices >> ((leaf - NAMES) * NAMES)) & EVERY_NAME


def with_mask(choices, leaf, mask):
    if mask == 0:
        return 0
    if leaf < NAMES:
        return choices
    shift = (leaf - NAMES) * NAMES
    return (choices & ~(EVERY_NAME << shift)) | (mask << shift)


def with_name(choices, leaf, name):
    return with_mask(choices, leaf, 1 << name)


def without_name(choices, leaf, name):
    return with_mask(choices, leaf, mask_of(choices, leaf) & ~(1 << name))


def names_of(choices, leaf):
    mask = mask_of(choices, leaf)
    return [name for name in range(NAMES) if (mask >> name) & 1 == 1]


# To see that each unknown has a bit left, its bits are folded onto its lowest one, those of all unknowns at a time.
def in_both(some, others):
    left = some & others
    folded = left | (left >> 8)
    folded = folded | (folded >> 4)
    folded = folded | (folded >> 2)
    folded = folded | (folded >> 1)
    return left if (folded & LOWEST) == LOWEST else 0


# The choices by which the two leaves of each pair stand for one name.
def where_equal(choices, pairs):
    for one, other in pairs:
        mask = mask_of(choices, one) & mask_of(choices, other)
        choices = with_mask(with_mask(choices, one, mask), other, mask)
        if choices == 0:
            return 0
    return choices


# For each leaf the one that stands for it and for all those that are equal to it if the two of each pair are.
def leaves_merged(pairs):
    merged = list(range(LEAVES))
    for one, other in pairs:
        gone = merged[one]
        kept = merged[other]
        merged = [kept if leaf == gone else leaf for leaf in merged]
    return merged


# Two leaves don't differ if both stand for one name, and for the same one.
def may_differ(choices, one, other):
    mask = mask_of(choices, one)
    return mask != mask_of(choices, other) or (mask & (mask - 1)) > 0


def pairs_that_may_differ(choices, pairs):
    return [pair for pair in pairs if may_differ(choices, pair[0], pair[1])]


# The choices by which not all pairs are equal. That leaves names out only where one pair is left that may differ.
def where_not_all_equal(choices, pairs):
    left = pairs_that_may_differ(choices, pairs)
    if len(left) == 0:
        return 0
    if len(left) > 1:
        return choices
    for one, other in (left[0], (left[0][1], left[0][0])):
        names = names_of(choices, one)
        if len(names) == 1 and other >= NAMES:
            choices = without_name(choices, other, names[0])
    return choices
