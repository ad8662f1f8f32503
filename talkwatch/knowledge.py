"""What can be known from some terms."""

from talkwatch.choices import in_both, mask_of, names_of, pairs_that_may_differ, where_equal
from talkwatch.talks import LOCKED, LOCKED_FOR, SEALED, TOGETHER


# Unknowns are kept as they are; it is asked by which choices of their names a term can be known. Where each stands
# for one name, the answer is just right. Where some may stand for several, no choice by which the term can be known
# is missing, but there may be some by which it can't: choices keep each unknown's names by themselves. There are
# fewer of these where `got` says of an unknown, name by name, by which choices it was got as that name. And choices
# by which all pairs of leaves of a row of `ruled_out` are equal needn't be in the answer.
class Knowledge:
    def __init__(self, terms):
        self.terms = terms
        self.held = {}
        self.alike = {}
        self.got = {}
        self.ruled_out = []

    def copied(self):
        other = Knowledge(self.terms)
        for number, choices in self.held.items():
            other.hear(number, choices)
        return other

    # Says whether there are choices among these by which the term wasn't held before.
    def hear(self, number, choices):
        if number not in self.held:
            self.held[number] = 0
            self.alike.setdefault(self.terms.shapes[number], []).append(number)
        before = self.held[number]
        self.held[number] = before | choices
        return self.held[number] != before

    # A key may come from what another key opens, so all is gone through until nothing comes of it.
    def settle(self, offered):
        grew = True
        while grew:
            grew = False
            row = list(self.held)
            place = 0
            while place < len(row):
                choices = self.choices_to_open(row[place], offered)
                for inner in self.parts_of(row[place]):
                    if choices > 0 and inner not in self.held:
                        row.append(inner)
                    if choices > 0 and self.hear(inner, choices):
                        grew = True
                place = place + 1

    def choices_to_open(self, number, offered):
        head = self.terms.heads[number]
        choices = in_both(self.held[number], offered)
        if head == LOCKED:
            return self.choices_for_got(self.terms.seconds[number], choices)
        if head == LOCKED_FOR:
            return self.choices_for_got(self.terms.own_keys[number], choices)
        return choices

    # As choices_for, of a term whose unknowns were all got.
    def choices_for_got(self, number, offered):
        return self.as_got(self.choices_for(number, offered), offered, self.terms.leaves[number])

    # Where fewer names are left for an unknown than there were before, choices go by which it wasn't got as these.
    def as_got(self, choices, before, leaves):
        for leaf in leaves:
            if leaf in self.got and mask_of(choices, leaf) != mask_of(before, leaf):
                got = 0
                for name in names_of(choices, leaf):
                    got = got | self.got[leaf][name]
                choices = in_both(choices, got)
        return choices

    # What comes out of a term that is open.
    def parts_of(self, number):
        head = self.terms.heads[number]
        if head == TOGETHER:
            return [self.terms.firsts[number], self.terms.seconds[number]]
        if head == LOCKED or head == LOCKED_FOR or head == SEALED:
            return [self.terms.firsts[number]]
        return []

    # By which of the choices offered the term can be known, without what holds a leaf that is barred; 0 if by none.
    def choices_for(self, number, offered, barred=0):
        found = {}
        for inner in self.terms.inner(number):
            choices = self.choices_by_held(inner, offered, barred)
            if choices != offered:
                choices = choices | self.choices_by_making(inner, offered, found)
            found[inner] = choices
        return found[number]

    def choices_by_held(self, number, offered, barred):
        choices = 0
        for held in self.alike.get(self.terms.shapes[number], []):
            choices = choices | self.choices_by_one(number, held, offered, barred)
        return choices

    def choices_by_one(self, number, held, offered, barred):
        pairs = self.terms.pairs_to_equal(number, held)
        if pairs is None or (self.terms.leaf_bits[held] & barred) > 0:
            return 0
        return self.choices_by_pairs(pairs, in_both(self.held[held], offered))

    def choices_by_pairs(self, pairs, offered):
        choices = where_equal(offered, pairs)
        if choices == 0 or self.is_ruled_out(pairs, choices):
            return 0
        return self.as_got(choices, offered, [theirs for ours, theirs in pairs])

    def is_ruled_out(self, pairs, choices):
        for row in self.ruled_out:
            left = [pair for pair in row if pair not in pairs and (pair[1], pair[0]) not in pairs]
            if len(pairs_that_may_differ(choices, left)) == 0:
                return True
        return False

    def choices_by_making(self, number, offered, found):
        needed = self.terms.made_from(number)
        choices = offered if len(needed) > 0 else 0
        for inner in needed:
            choices = in_both(choices, found[inner])
        return choices

    # Pairs of leaves that are equal by all choices by which the term can be known: those of what it must be put
    # together from, down to terms that must be the one thing held that they can be.
    def sure_pairs(self, number, offered, barred):
        sure = []
        waiting = [number]
        while len(waiting) > 0:
            inner = waiting.pop()
            alike = self.alike.get(self.terms.shapes[inner], [])
            fitting = [held for held in alike if self.choices_by_one(inner, held, offered, barred) > 0]
            if len(fitting) == 0:
                waiting.extend(self.terms.made_from(inner))
            elif len(fitting) == 1 and not self.can_be_made(inner, offered, barred):
                sure.extend(self.terms.pairs_to_equal(inner, fitting[0]))
        return sure

    def can_be_made(self, number, offered, barred):
        needed = self.terms.made_from(number)
        return len(needed) > 0 and min([self.choices_for(inner, offered, barred) for inner in needed]) > 0
