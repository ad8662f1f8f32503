"""Choices, on which way, follow and knows rest: which names unknowns may stand for."""

import unittest

from talkwatch.choices import (
    EVERY_CHOICE, LEAVES, NAMES, in_both, leaf_of, leaves_merged, mask_of, names_of, pairs_that_may_differ, where_equal,
    where_not_all_equal, with_mask, with_name, without_name,
)

UNKNOWNS = range(NAMES, LEAVES)


def all_as(name):
    choices = EVERY_CHOICE
    for leaf in UNKNOWNS:
        choices = with_name(choices, leaf, name)
    return choices


class Choices(unittest.TestCase):
    def test_leaves(self):
        leaves = [leaf_of(part, unknown) for part in range(4) for unknown in range(4)]
        self.assertEqual(leaves, list(UNKNOWNS))

    def test_every_choice(self):
        for leaf in UNKNOWNS:
            self.assertEqual(names_of(EVERY_CHOICE, leaf), list(range(16)))
        for name in range(16):
            self.assertEqual(names_of(EVERY_CHOICE, name), [name])

    def test_one_unknown_is_changed_alone(self):
        for leaf in UNKNOWNS:
            for name in range(16):
                choices = with_name(EVERY_CHOICE, leaf, name)
                self.assertEqual(names_of(choices, leaf), [name])
                for other in UNKNOWNS:
                    if other != leaf:
                        self.assertEqual(mask_of(choices, other), 0xFFFF)
                rest = [number for number in range(16) if number != name]
                self.assertEqual(names_of(without_name(EVERY_CHOICE, leaf, name), leaf), rest)

    def test_no_name_is_no_choice(self):
        for leaf in UNKNOWNS:
            self.assertEqual(with_mask(EVERY_CHOICE, leaf, 0), 0)
            self.assertEqual(without_name(with_name(EVERY_CHOICE, leaf, 3), leaf, 3), 0)

    def test_in_both(self):
        for name in range(16):
            self.assertEqual(in_both(EVERY_CHOICE, all_as(name)), all_as(name))
            for leaf in UNKNOWNS:
                other = with_mask(all_as(name), leaf, 0xFFFF & ~(1 << name))
                self.assertEqual(in_both(all_as(name), other), 0)
                self.assertEqual(in_both(EVERY_CHOICE, other), other)
                self.assertEqual(in_both(without_name(EVERY_CHOICE, leaf, name), other), other)
        self.assertEqual(in_both(EVERY_CHOICE, 0), 0)

    def test_where_equal(self):
        some = with_mask(with_mask(EVERY_CHOICE, 16, 0b0110), 31, 0b1100)
        equal = where_equal(some, [(16, 31)])
        self.assertEqual((names_of(equal, 16), names_of(equal, 31), names_of(equal, 20)), ([2], [2], list(range(16))))
        self.assertEqual(names_of(where_equal(some, [(1, 16)]), 16), [1])
        self.assertEqual(names_of(where_equal(some, [(31, 3)]), 31), [3])
        self.assertEqual(where_equal(some, []), some)
        self.assertEqual(where_equal(some, [(16, 3)]), 0)
        self.assertEqual(where_equal(some, [(16, 31), (31, 3)]), 0)
        self.assertEqual(where_equal(0, [(16, 31)]), 0)

    def test_pairs_that_may_differ(self):
        some = with_name(with_name(with_name(with_mask(EVERY_CHOICE, 16, 0b0110), 17, 2), 18, 2), 19, 3)
        pairs = [(16, 17), (17, 18), (17, 19), (2, 18), (3, 18), (19, 3), (16, 16), (20, 21)]
        self.assertEqual(pairs_that_may_differ(some, pairs), [(16, 17), (17, 19), (3, 18), (16, 16), (20, 21)])

    def test_where_not_all_equal(self):
        some = with_name(with_name(with_mask(EVERY_CHOICE, 16, 0b0110), 17, 2), 18, 2)
        self.assertEqual(where_not_all_equal(some, []), 0)
        self.assertEqual(where_not_all_equal(some, [(17, 18), (18, 2)]), 0)
        for pair in ((16, 17), (17, 16), (16, 2), (2, 16)):
            self.assertEqual(where_not_all_equal(some, [pair, (17, 18)]), with_name(some, 16, 1))
        self.assertEqual(where_not_all_equal(some, [(16, 17), (20, 17)]), some)
        self.assertEqual(where_not_all_equal(some, [(16, 20)]), some)
        self.assertEqual(where_not_all_equal(some, [(17, 3)]), some)

    def test_leaves_merged(self):
        merged = leaves_merged([(16, 20), (24, 20), (30, 31), (2, 30), (17, 17)])
        self.assertEqual(len(merged), LEAVES)
        self.assertEqual(len({merged[16], merged[20], merged[24]}), 1)
        self.assertEqual(len({merged[30], merged[31], merged[2]}), 1)
        self.assertEqual(len(set(merged)), LEAVES - 4)
        self.assertEqual(leaves_merged([]), list(range(LEAVES)))


if __name__ == "__main__":
    unittest.main()
