"""Terms kept once each, by number. A term's number is above the numbers of those within it."""

from talkwatch.choices import NAMES, leaf_of
from talkwatch.talks import INNER_TERMS, LOCKED_FOR, NAME, NOTHING, OWN_KEY, SEALED, UNKNOWN, heads_of


def bits_of(leaves):
    bits = 0
    for leaf in leaves:
        bits = bits | (1 << leaf)
    return bits


# Two terms are of one shape if they differ in their leaves alone; such terms are equal if their leaves are.
class Terms:
    def __init__(self):
        self.heads = []
        self.firsts = []
        self.seconds = []
        self.own_keys = []
        self.shapes = []
        self.leaves = []
        self.leaf_bits = []
        self.numbers = {}
        self.shape_numbers = {}
        self.inner_lists = {}
        self.pair_lists = {}

    # Read from behind, a term comes when those within it are there already.
    def put(self, term, part):
        ready = []
        for head, number in reversed(heads_of(term)):
            if head == NAME:
                ready.append(self.put_leaf(head, number))
            elif head == UNKNOWN:
                ready.append(self.put_leaf(head, leaf_of(part, number)))
            elif INNER_TERMS[head] == 1:
                ready.append(self.put_around(head, ready.pop(), NOTHING))
            else:
                first = ready.pop()
                ready.append(self.put_around(head, first, ready.pop()))
        return ready.pop()

    def put_leaf(self, head, leaf):
        key = (head, leaf, NOTHING)
        if key not in self.numbers:
            self.put_new(key, NOTHING, NOTHING, (leaf,))
        return self.numbers[key]

    def put_around(self, head, first, second):
        key = (head, first, second)
        if key not in self.numbers:
            own_key = NOTHING
            # Who opens the one or makes the other needs this key, so it must have a number, too.
            if head == LOCKED_FOR or head == SEALED:
                own_key = self.put_around(OWN_KEY, second, NOTHING)
            self.put_new(key, own_key, self.shape_of(key), self.leaves_within(key))
        return self.numbers[key]

    def shape_of(self, key):
        shape = (key[0], self.shapes[key[1]], NOTHING)
        if key[2] != NOTHING:
            shape = (key[0], self.shapes[key[1]], self.shapes[key[2]])
        return self.shape_numbers.setdefault(shape, len(self.shape_numbers))

    def leaves_within(self, key):
        if key[2] == NOTHING:
            return self.leaves[key[1]]
        return self.leaves[key[1]] + self.leaves[key[2]]

    def put_new(self, key, own_key, shape, leaves):
        self.numbers[key] = len(self.heads)
        self.heads.append(key[0])
        self.firsts.append(key[1])
        self.seconds.append(key[2])
        self.own_keys.append(own_key)
        self.shapes.append(shape)
        self.leaves.append(leaves)
        self.leaf_bits.append(bits_of(leaves))

    # What the term can be put together from, lesser numbers first, and at last the term itself.
    def inner(self, number):
        if number not in self.inner_lists:
            self.inner_lists[number] = self.find_inner(number)
        return self.inner_lists[number]

    def find_inner(self, number):
        wanted = {number: True}
        for candidate in range(number, NOTHING, -1):
            if candidate in wanted:
                for needed in self.made_from(candidate):
                    wanted[needed] = True
        return sorted(wanted)

    # Leaves and own keys are not put together.
    def made_from(self, number):
        head = self.heads[number]
        if INNER_TERMS[head] == 0 or head == OWN_KEY:
            return []
        if head == SEALED:
            return [self.firsts[number], self.seconds[number], self.own_keys[number]]
        if INNER_TERMS[head] == 1:
            return [self.firsts[number]]
        return [self.firsts[number], self.seconds[number]]

    # Which leaves must stand for one name if two terms are to be equal; None if they can't be.
    def pairs_to_equal(self, one, other):
        if (one, other) not in self.pair_lists:
            self.pair_lists[(one, other)] = self.find_pairs(one, other)
        return self.pair_lists[(one, other)]

    def find_pairs(self, one, other):
        if self.shapes[one] != self.shapes[other]:
            return None
        pairs = {}
        for ours, theirs in zip(self.leaves[one], self.leaves[other]):
            if ours < NAMES and theirs < NAMES and ours != theirs:
                return None
            if ours != theirs:
                pairs[(ours, theirs)] = True
        return list(pairs)
