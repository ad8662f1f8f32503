"""Promise 2: way, and with it what can be known, what a way is, and which comes first."""

import contextlib
import inspect
import io
import random
import unittest

from talkwatch.desk import way
from tests.helper import (
    BEGINS, ENDS, GETS, LOCKED, LOCKED_FOR, OWN_KEY, PAIR, PRINT, SEALED, SENDS, SORTS_OF_TWO, Chance, FixedList,
    SlowTalk, TooMany, locked, locked_for, name, own_key, part, print_of, sealed, steps, talk, together, unknown,
    with_few_calls,
)

LEAST, GREATEST = -2147483648, 2147483647
SECRET, WRONG_END, ALL_DONE = 0, 1, 2
EACH = (SECRET, WRONG_END, ALL_DONE)

A, B, C, D, E = [name(number) for number in range(5)]
X, Y, Z, W = [unknown(number) for number in range(4)]


class WayCase(unittest.TestCase):
    def answers(self, what, told, answer, most=1000):
        got = way(what, most, list(told))
        self.assertEqual(got, answer, (what, told))
        self.assertIs(type(got), list)
        self.assertEqual({type(number) for number in got}, {int})

    def first_is(self, what, told, *rows):
        bytes_told = steps(*rows)
        self.answers(what, told, [len(bytes_told)] + bytes_told)

    def none(self, what, told):
        self.answers(what, told, [0])


class OrdinaryTalks(WayCase):
    def test_a_secret_sent_openly(self):
        told = talk([A], [part((SENDS, A), (SENDS, B), (SENDS, C))], [B])
        self.first_is(SECRET, told, (0,), (0,))

    def test_a_secret_locked_by_a_name_that_is_got(self):
        told = talk([A], [part((GETS, X), (SENDS, locked(B, X)))], [B])
        self.first_is(SECRET, told, (0, 0), (0,))
        self.none(WRONG_END, told)
        self.first_is(ALL_DONE, told, (0, 0), (0,))

    def test_two_parts_of_which_one_gives_the_other_a_key(self):
        gives = part((GETS, locked_for(X, A)), (SENDS, X))
        has = part((SENDS, locked_for(C, A)), (SENDS, locked(D, C)))
        self.first_is(SECRET, talk([A], [gives, has], [C]), (1,), (0, 2), (0,))
        self.first_is(SECRET, talk([A], [gives, has], [D]), (1,), (0, 2), (0,), (1,))
        self.first_is(ALL_DONE, talk([A], [gives, has]), (0, 0), (0,), (1,), (1,))

    def test_the_one_in_between(self):
        """A and B talk by locks for one another; the third joins in and hears the first's word."""
        first = part((GETS, X), (BEGINS, X), (SENDS, locked_for(together(D, A), X)))
        second = part((GETS, locked_for(together(X, A), B)), (SENDS, locked_for(X, A)), (ENDS, B))
        told = talk([A, B, C, own_key(C)], [first, second], [D])
        self.first_is(SECRET, told, (0, 2), (0,), (0,))
        self.first_is(WRONG_END, told, (1, 0), (1,), (1,))
        self.first_is(ALL_DONE, told, (0, 0), (0,), (0,), (1, 0), (1,), (1,))

    def test_a_party_that_passes_words_on(self):
        """The first begins with C, who passes its words on to the second; that ends sure of having talked with it."""
        def told(named, sessions):
            parts = []
            for number in range(sessions):
                mine, yours = name(3 + 2 * number), name(4 + 2 * number)
                got = together(mine, Y, X) if named else together(mine, Y)
                said = together(Y, yours, B) if named else together(Y, yours)
                parts.append(part((GETS, X), (BEGINS, together(A, X)), (SENDS, locked_for(together(mine, A), X)),
                                  (GETS, locked_for(got, A)), (SENDS, locked_for(Y, X))))
                parts.append(part((GETS, locked_for(together(Y, A), B)), (SENDS, locked_for(said, A)),
                                  (GETS, locked_for(yours, B)), (ENDS, together(A, B))))
            return talk([A, B, C, own_key(C)], parts, [name(4), name(6)][:sessions])

        passed_on = [(0, 2), (0,), (0,), (1, 3), (1,), (0, 4), (0,)]
        done = [(0, 1), (0,), (0,), (1, 3), (1,), (0, 4), (0,), (1,), (1,)]
        again = [(2, 1), (2,), (2,), (3, 5), (3,), (2, 6), (2,), (3,), (3,)]
        for sessions in (1, 2):
            self.first_is(SECRET, told(False, sessions), *passed_on)
            self.first_is(WRONG_END, told(False, sessions), *passed_on, (1,), (1,))
            self.none(SECRET, told(True, sessions))
            self.none(WRONG_END, told(True, sessions))
            for named in (False, True):
                self.first_is(ALL_DONE, told(named, sessions), *(done + again)[:9 * sessions])

    def test_three_parts(self):
        parts = [part((GETS, locked(X, B)), (SENDS, print_of(X))), part((SENDS, locked(C, B))),
                 part((GETS, print_of(C)), (SENDS, D))]
        self.first_is(SECRET, talk([], parts, [D]), (1,), (0, 2), (0,), (2,), (2,))
        self.first_is(ALL_DONE, talk([], parts), (1,), (0, 2), (0,), (2,), (2,))
        self.none(SECRET, talk([], parts, [C, A, print_of(B)]))

    def test_four_parts(self):
        parts = [part((GETS, B), (SENDS, A)), part((GETS, C), (SENDS, B)), part((GETS, D), (SENDS, C)),
                 part((GETS, E), (SENDS, D))]
        told = talk([E], parts, [A])
        self.first_is(SECRET, told, (3,), (3,), (2,), (2,), (1,), (1,), (0,), (0,))
        self.first_is(ALL_DONE, told, (3,), (3,), (2,), (2,), (1,), (1,), (0,), (0,))
        self.none(SECRET, talk([], parts, [A]))
        self.none(ALL_DONE, talk([], parts, [A]))

    def test_a_wrong_end_with_one_to_four_parts(self):
        ends = part((GETS, X), (ENDS, X))
        begins = part((BEGINS, A))
        self.first_is(WRONG_END, talk([A], [ends]), (0, 0), (0,))
        self.first_is(WRONG_END, talk([A], [begins, ends]), (1, 0), (1,))
        self.first_is(WRONG_END, talk([A], [begins, begins, ends]), (2, 0), (2,))
        self.first_is(WRONG_END, talk([A], [begins, ends, begins, ends]), (1, 0), (1,))

    def test_none(self):
        self.none(SECRET, talk([A], [part((SENDS, A))], [B]))
        self.none(SECRET, talk([A], [part((SENDS, B))], []))
        self.none(WRONG_END, talk([A], [part((BEGINS, A))]))
        self.none(WRONG_END, talk([A], [part((GETS, B), (ENDS, A))]))
        self.none(ALL_DONE, talk([A], [part((GETS, B))]))

    def test_one_of_several_secrets(self):
        told = talk([], [part((SENDS, A), (SENDS, B), (SENDS, C))], [D, C, B, E])
        self.first_is(SECRET, told, (0,), (0,))


class Bounds(WayCase):
    def setUp(self):
        self.told = talk([A], [part((GETS, X), (SENDS, locked(B, X)), (ENDS, X))], [B])
        self.ways = {
            SECRET: steps((0, 0), (0,)), WRONG_END: steps((0, 0), (0,), (0,)), ALL_DONE: steps((0, 0), (0,), (0,)),
        }

    def test_what(self):
        for what in (LEAST, LEAST + 1, -256, -2, -1, 3, 4, 255, 256, 257, GREATEST - 1, GREATEST):
            self.answers(what, self.told, [-2])
            self.answers(what, self.told, [-2], most=0)
            self.answers(what, self.told, [-2], most=-1)
        for what in EACH:
            self.answers(what, self.told, [len(self.ways[what])] + self.ways[what])

    def test_most(self):
        for what in EACH:
            length = len(self.ways[what])
            for most in (LEAST, LEAST + 1, -256, -2, -1):
                self.answers(what, self.told, [-2], most)
            for most in range(length):
                self.answers(what, self.told, [-4], most)
            for most in (length, length + 1, 144, 255, GREATEST - 1, GREATEST):
                self.answers(what, self.told, [length] + self.ways[what], most)

    def test_most_of_a_longer_way(self):
        parts = [part((GETS, together(X, Y, Z, W)), *[(SENDS, X)] * 5)] * 4
        told = talk([A], parts)
        answer = steps(*([(number, 0, 0, 0, 0) if place == 0 else (number,)
                          for number in range(4) for place in range(6)]))
        self.assertEqual(len(answer), 64)
        for most in (0, 1, 24, 48, 62, 63):
            self.answers(ALL_DONE, told, [-4], most)
        for most in (64, 65, GREATEST):
            self.answers(ALL_DONE, told, [64] + answer, most)

    def test_none_hangs_on_no_most(self):
        told = talk([A], [part((GETS, B), (ENDS, B))], [B])
        for what in EACH:
            for most in (0, 1, GREATEST):
                self.answers(what, told, [0], most)
            self.answers(what, told, [-2], -1)

    def test_no_steps(self):
        known_at_first = talk([A], [part((SENDS, A))], [B, A])
        nothing_to_do = talk([A], [part(), part()], [B])
        for most in (0, 1, GREATEST):
            self.answers(SECRET, known_at_first, [-1], most)
            self.answers(ALL_DONE, nothing_to_do, [-1], most)
            self.answers(WRONG_END, nothing_to_do, [0], most)
        self.answers(SECRET, known_at_first, [-2], -1)
        self.answers(ALL_DONE, nothing_to_do, [-2], LEAST)

    def test_a_talk_that_is_refused(self):
        long_talk = talk(parts=[part((SENDS, [PRINT] * 506 + A))])
        self.assertEqual(len(long_talk), 513)
        for what in (LEAST, -1, 0, 1, 2, 3, GREATEST):
            for most in (LEAST, -1, 0, 1, GREATEST):
                self.answers(what, long_talk, [-2], most)
                self.answers(what, [255] * 600, [-2], most)
                for no_talk in ([], [255], [0, 0, 0], self.told + [0], self.told[:-1],
                                talk(parts=[part((SENDS, X))])):
                    self.answers(what, no_talk, [-3], most)


class WhatCanBeKnown(WayCase):
    def known(self, terms, term):
        self.answers(SECRET, talk(terms, [part()], [term]), [-1])
        self.first_is(ALL_DONE, talk(terms, [part((GETS, term))]), (0,))
        sends = part(*[(SENDS, sent) for sent in terms], (GETS, term))
        self.first_is(ALL_DONE, talk([], [sends]), *[(0,)] * (len(terms) + 1))

    def not_known(self, terms, term):
        self.none(SECRET, talk(terms, [part()], [term]))
        self.none(ALL_DONE, talk(terms, [part((GETS, term))]))
        self.none(ALL_DONE, talk([], [part(*[(SENDS, sent) for sent in terms], (GETS, term))]))

    def test_these(self):
        for term in (A, together(A, B), locked(A, B), locked_for(A, B), print_of(A), own_key(A), sealed(A, B)):
            self.known([term], term)
            self.known([C, term], term)
            self.not_known([], term)
            self.not_known([C], term)

    def test_both_of_two_together(self):
        self.known([together(A, B)], A)
        self.known([together(A, B)], B)
        self.known([together(together(A, B), together(C, D))], C)
        self.known([A, B], together(A, B))
        self.known([A, B], together(B, A))
        self.known([A], together(A, A))
        self.not_known([A], together(A, B))
        self.not_known([B], together(A, B))
        self.not_known([together(A, B)], C)

    def test_locked_by(self):
        self.known([locked(A, B), B], A)
        self.not_known([locked(A, B)], A)
        self.not_known([locked(A, B)], B)
        self.not_known([locked(A, B), A], B)
        self.not_known([locked(A, B), own_key(B)], A)
        self.known([A, B], locked(A, B))
        self.not_known([A], locked(A, B))
        self.not_known([B], locked(A, B))
        self.not_known([A, B], locked(A, C))

    def test_locked_by_what_must_be_put_together(self):
        self.known([locked(A, together(B, print_of(C))), B, C], A)
        self.not_known([locked(A, together(B, print_of(C))), B], A)
        self.not_known([locked(A, together(B, print_of(C))), C], A)
        self.known([locked(A, locked_for(B, C)), together(B, C)], A)
        self.not_known([locked(A, own_key(B)), B], A)
        self.known([locked(A, own_key(B)), own_key(B)], A)

    def test_locked_for(self):
        self.known([locked_for(A, B), own_key(B)], A)
        self.not_known([locked_for(A, B), B], A)
        self.not_known([locked_for(A, B), own_key(C)], A)
        self.not_known([locked_for(A, B), own_key(B)], B)
        self.not_known([locked_for(A, B)], A)
        self.known([A, B], locked_for(A, B))
        self.not_known([A, own_key(B)], locked_for(A, B))
        self.not_known([B, own_key(B)], locked_for(A, B))
        self.known([locked_for(A, print_of(B)), own_key(print_of(B))], A)
        self.not_known([locked_for(A, print_of(B)), own_key(B), B], A)

    def test_sealed(self):
        self.known([sealed(A, B)], A)
        self.not_known([sealed(A, B)], B)
        self.not_known([sealed(A, B)], own_key(B))
        self.known([A, B, own_key(B)], sealed(A, B))
        self.not_known([A, B], sealed(A, B))
        self.not_known([A, own_key(B)], sealed(A, B))
        self.not_known([B, own_key(B)], sealed(A, B))
        self.not_known([A, B, own_key(A)], sealed(A, B))

    def test_print(self):
        self.known([A], print_of(A))
        self.known([A, B], print_of(together(A, B)))
        self.not_known([B], print_of(A))
        self.not_known([print_of(A)], A)
        self.not_known([print_of(A)], print_of(print_of(B)))
        self.known([print_of(A)], print_of(print_of(A)))

    def test_own_key(self):
        self.not_known([A], own_key(A))
        self.not_known([own_key(A)], A)
        self.known([together(own_key(A), B)], own_key(A))
        self.not_known([own_key(A)], own_key(own_key(A)))

    def test_several_turns(self):
        chain = [locked(B, A), locked(C, print_of(B)), locked_for(D, C), locked(own_key(C), together(C, B))]
        for order in (chain, chain[::-1]):
            self.known(order + [A], D)
            self.known(order + [A], print_of(together(D, locked(B, C))))
            self.not_known(order, D)
            for lacking in range(4):
                self.not_known([A] + order[:lacking] + order[lacking + 1:], D)
        self.known([locked(locked(A, B), B), sealed(B, C)], A)
        self.known([together(locked(A, C), locked(C, B)), sealed(sealed(B, D), E)], locked_for(A, C))

    def test_what_is_held_needn_t_be_open(self):
        self.known([locked(A, B)], print_of(locked(A, B)))
        self.known([locked_for(A, B), C], together(C, locked_for(A, B)))
        self.known([own_key(A), sealed(A, A)], sealed(sealed(A, A), A))
        self.not_known([own_key(A), sealed(B, A)], sealed(sealed(A, A), A))


class Unknowns(WayCase):
    def test_the_least_name_that_does(self):
        for number in range(16):
            told = talk([name(number)], [part((GETS, X))])
            self.first_is(ALL_DONE, told, (0, number))
        self.first_is(ALL_DONE, talk([name(15), name(3), name(9)], [part((GETS, X))]), (0, 3))
        self.none(ALL_DONE, talk([print_of(A)], [part((GETS, X))]))

    def test_names_that_later_events_ask_for(self):
        for number in (0, 1, 7, 15):
            held = together(*[name(other) for other in range(16)])
            told = talk([held, print_of(own_key(name(number)))], [part((GETS, X), (GETS, print_of(own_key(X))))])
            self.first_is(ALL_DONE, told, (0, number), (0,))

    def test_rising_by_unknown_and_not_by_place(self):
        self.first_is(ALL_DONE, talk([locked(together(C, A), B)], [part((GETS, locked(together(Y, X), B)))]), (0, 0, 2))
        self.first_is(ALL_DONE, talk([locked(together(D, C, B, A), E)], [part((GETS, locked(together(Z, X, W, Y), E)))]),
                      (0, 2, 0, 3, 1))
        self.first_is(ALL_DONE, talk([locked(together(D, C), E)], [part((GETS, locked(together(W, Y), E)))]), (0, 2, 3))

    def test_a_name_that_is_known_only_within_a_term(self):
        told = talk([print_of(name(15)), locked_for(name(4), B)], [part((GETS, print_of(X)), (GETS, locked_for(Y, B)))])
        self.first_is(ALL_DONE, told, (0, 15), (0, 4))

    def test_one_that_stands_for_a_name_already(self):
        told = talk([B, C], [part((GETS, X), (GETS, X), (GETS, together(X, Y)))])
        self.first_is(ALL_DONE, told, (0, 1), (0,), (0, 1))
        told = talk([B, print_of(C), locked(A, C)], [part((GETS, X), (GETS, print_of(X)), (GETS, locked(A, X)))])
        self.none(ALL_DONE, told)

    def test_twice_in_one_term(self):
        twice = locked(together(X, X), E)
        self.none(ALL_DONE, talk([locked(together(A, B), E)], [part((GETS, twice))]))
        self.first_is(ALL_DONE, talk([locked(together(A, B), E), locked(together(B, B), E)], [part((GETS, twice))]),
                      (0, 1))

    def test_the_same_in_two_parts(self):
        parts = [part((GETS, locked(X, D)), (SENDS, print_of(X))), part((GETS, locked(X, E)), (SENDS, X))]
        told = talk([locked(A, D), locked(B, E)], parts, [B])
        self.first_is(ALL_DONE, told, (0, 0), (0,), (1, 1), (1,))
        self.first_is(SECRET, told, (1, 1), (1,))

    def test_names_0_and_15(self):
        told = talk([name(15)], [part((GETS, X), (SENDS, locked(name(0), X)), (GETS, Y))], [name(0)])
        self.first_is(SECRET, told, (0, 15), (0,))
        self.first_is(ALL_DONE, told, (0, 15), (0,), (0, 0))

    def test_unknowns_stand_for_names_alone(self):
        self.none(ALL_DONE, talk([own_key(A)], [part((GETS, X))]))
        self.none(ALL_DONE, talk([print_of(own_key(A))], [part((GETS, print_of(X)))]))
        self.none(ALL_DONE, talk([locked(together(A, B), E)], [part((GETS, locked(X, E)))]))


class WhichComesFirst(WayCase):
    def test_fewer_steps_ahead_of_lesser_bytes(self):
        parts = [part((SENDS, B), (SENDS, A)), part((SENDS, C)), part((SENDS, A))]
        self.first_is(SECRET, talk([], parts, [A]), (2,))
        parts = [part((SENDS, locked(A, B)), (SENDS, C), (SENDS, B)), part((SENDS, B))]
        self.first_is(SECRET, talk([], parts, [A]), (0,), (1,))
        parts = [part((ENDS, A), (SENDS, B)), part((SENDS, B), (ENDS, A))]
        self.first_is(WRONG_END, talk([], parts), (0,))

    def test_of_as_many_steps_the_lesser_part(self):
        sends = part((SENDS, A))
        self.first_is(SECRET, talk([], [part(), sends, sends], [A]), (1,))
        parts = [part((GETS, C), (SENDS, A)), part((SENDS, B), (SENDS, A)), part((SENDS, C))]
        self.first_is(SECRET, talk([], parts, [A]), (1,), (1,))
        self.first_is(ALL_DONE, talk([], parts), (1,), (1,), (2,), (0,), (0,))

    def test_of_the_same_parts_the_lesser_names(self):
        gets = part((GETS, X), (GETS, Y), (SENDS, locked(A, together(X, Y))))
        self.first_is(SECRET, talk([C, D], [gets], [A]), (0, 2), (0, 2), (0,))

    def test_the_part_comes_ahead_of_the_names(self):
        parts = [part((GETS, locked(X, E)), (SENDS, X)), part((GETS, print_of(X)), (SENDS, locked(B, X)))]
        told = talk([locked(name(9), E), print_of(name(9)), print_of(D)], parts)
        self.first_is(ALL_DONE, told, (0, 9), (0,), (1, 3), (1,))
        self.first_is(SECRET, talk([locked(name(9), E), print_of(name(9)), print_of(D)], parts, [B]),
                      (0, 9), (0,), (1, 9), (1,))

    def test_names_that_lead_nowhere_are_passed_over(self):
        gets = part((GETS, together(X, Y)), (GETS, locked(together(Y, X), E)), (SENDS, A))
        told = talk([B, C, D, locked(together(D, C), E), locked(together(C, D), E)], [gets], [A])
        self.first_is(SECRET, told, (0, 2, 3), (0,), (0,))

    def test_the_name_by_which_it_goes_on(self):
        parts = [part((GETS, X), (SENDS, locked(C, print_of(X)))), part((GETS, locked(C, print_of(A))))]
        self.first_is(ALL_DONE, talk([B, A], parts), (0, 0), (0,), (1,))
        self.none(ALL_DONE, talk([B], parts))

    def test_the_least_name_decides_which_parts_go_on(self):
        """Of as many steps there is a way by each of the names 0 and 1, with other parts in it."""
        gets = part((GETS, X), (SENDS, locked(C, print_of(together(X, own_key(E))))),
                    (SENDS, print_of(together(B, own_key(E)))))
        sends = part((SENDS, print_of(together(A, own_key(E)))))
        self.first_is(SECRET, talk([A, B], [gets, sends], [C]), (0, 0), (0,), (1,))
        self.first_is(SECRET, talk([B], [gets, sends], [C]), (0, 1), (0,), (0,))
        self.first_is(SECRET, talk([A, B], [sends, gets], [C]), (0,), (1, 0), (1,))

    def test_a_lesser_part_goes_first_as_soon_as_it_can(self):
        parts = [part((GETS, B), (GETS, C)), part((SENDS, A), (SENDS, B), (SENDS, A), (SENDS, C))]
        self.first_is(ALL_DONE, talk([], parts), (1,), (1,), (0,), (1,), (1,), (0,))


class WrongEnds(WayCase):
    def test_what_only_the_part_itself_began_with(self):
        self.first_is(WRONG_END, talk([], [part((BEGINS, A), (ENDS, A))]), (0,), (0,))
        self.first_is(WRONG_END, talk([], [part((BEGINS, A), (ENDS, A)), part((SENDS, A))]), (0,), (0,))

    def test_what_another_began_with(self):
        begins = part((BEGINS, A), (SENDS, B))
        ends = part((GETS, B), (ENDS, A))
        for parts in ([begins, ends], [ends, begins], [begins, ends, part((BEGINS, C))]):
            self.none(WRONG_END, talk([], parts))
            self.none(WRONG_END, talk([], parts, [A]))

    def test_what_another_began_with_or_not(self):
        begins = part((BEGINS, A))
        ends = part((ENDS, A))
        self.first_is(WRONG_END, talk([], [begins, ends]), (1,))
        self.first_is(WRONG_END, talk([], [ends, begins]), (0,))

    def test_what_another_began_with_after(self):
        begins = part((SENDS, C), (BEGINS, A), (SENDS, B))
        ends = part((GETS, C), (ENDS, A), (GETS, B), (ENDS, D))
        self.first_is(WRONG_END, talk([], [begins, ends]), (0,), (1,), (1,))

    def test_what_another_began_with_once_unknowns_are_replaced(self):
        begins = part((GETS, X), (BEGINS, together(X, B)), (SENDS, locked(X, E)))
        ends = part((GETS, locked(Y, E)), (ENDS, together(Y, B)))
        self.none(WRONG_END, talk([A, C], [begins, ends]))
        ends = part((GETS, locked(Y, E)), (ENDS, together(A, Y)))
        self.first_is(WRONG_END, talk([A, B], [begins, ends]), (0, 0), (0,), (0,), (1, 0), (1,))
        begins = part((GETS, X), (BEGINS, together(A, X)), (SENDS, locked(X, E)))
        self.none(WRONG_END, talk([A, B], [begins, ends]))
        begins = part((GETS, X), (BEGINS, together(A, X)), (SENDS, locked(A, E)))
        self.first_is(WRONG_END, talk([A, B], [ends, begins]), (1, 1), (1,), (1,), (0, 0), (0,))
        self.none(WRONG_END, talk([A], [ends, begins]))

    def test_the_names_that_keep_them_apart(self):
        begins = part((GETS, X), (BEGINS, X), (SENDS, D))
        ends = part((GETS, D), (GETS, X), (ENDS, X))
        self.first_is(WRONG_END, talk([A], [begins, ends]), (0, 0), (0,), (0,), (1,), (1, 3), (1,))
        self.first_is(WRONG_END, talk([C, A], [begins, ends]), (0, 0), (0,), (0,), (1,), (1, 2), (1,))
        self.first_is(WRONG_END, talk([A, E], [part((GETS, X), (BEGINS, A), (SENDS, D)), ends]),
                      (0, 0), (0,), (0,), (1,), (1, 3), (1,))

    def test_both_may_stand_for_the_same_names(self):
        begins = part((GETS, X), (BEGINS, X), (SENDS, locked(D, E)))
        ends = part((GETS, locked(D, E)), (GETS, X), (ENDS, X))
        self.none(WRONG_END, talk([A], [begins, ends]))
        self.none(WRONG_END, talk([name(15)], [begins, ends]))
        self.first_is(WRONG_END, talk([A, B], [begins, ends]), (0, 0), (0,), (0,), (1,), (1, 1), (1,))
        self.first_is(WRONG_END, talk([A, B], [ends, begins]), (1, 0), (1,), (1,), (0,), (0, 1), (0,))

    def test_what_another_said_could_also_be_put_together(self):
        begins = part((GETS, X), (BEGINS, X), (SENDS, locked(X, C)), (SENDS, locked(D, E)))
        ends = part((GETS, locked(D, E)), (GETS, locked(X, C)), (ENDS, X))
        self.first_is(WRONG_END, talk([A, B, C], [begins, ends]), (0, 0), (0,), (0,), (0,), (1,), (1, 1), (1,))
        self.none(WRONG_END, talk([A, B], [begins, ends]))
        both = together(X, Y)
        begins = part((GETS, both), (BEGINS, both), (SENDS, locked(X, C)), (SENDS, locked(Y, own_key(E))))
        ends = part((GETS, locked(Y, own_key(E))), (GETS, locked(X, C)), (ENDS, both))
        self.first_is(WRONG_END, talk([A, B, C], [begins, ends]), (0, 0, 0), (0,), (0,), (0,), (1, 0), (1, 1), (1,))
        self.none(WRONG_END, talk([A, B], [begins, ends]))

    def test_each_name_was_begun_with(self):
        begins = part((BEGINS, A), (BEGINS, B), (SENDS, locked(D, E)))
        ends = part((GETS, locked(D, E)), (GETS, X), (ENDS, X))
        self.none(WRONG_END, talk([A, B], [begins, ends]))
        self.first_is(WRONG_END, talk([A, B, C], [begins, ends]), (0,), (0,), (0,), (1,), (1, 2), (1,))
        ends = part((GETS, locked(D, E)), (GETS, together(X, Y)), (ENDS, together(X, Y)))
        begins = part((BEGINS, together(A, B)), (BEGINS, together(B, A)), (BEGINS, together(A, A)),
                      (BEGINS, together(B, B)), (SENDS, locked(D, E)))
        self.none(WRONG_END, talk([A, B], [begins, ends]))
        self.first_is(WRONG_END, talk([A, B, C], [begins, ends]), *[(0,)] * 5, (1,), (1, 0, 2), (1,))

    def test_the_same_term_ended_twice(self):
        begins = part((BEGINS, A), (SENDS, B))
        ends = part((GETS, B), (ENDS, A), (ENDS, A), (ENDS, C))
        self.first_is(WRONG_END, talk([], [begins, ends]), (0,), (0,), (1,), (1,), (1,), (1,))

    def test_neither_may_do_for_the_other(self):
        both = part((BEGINS, A), (ENDS, A))
        self.first_is(WRONG_END, talk([], [both, both]), (0,), (0,))
        held = part((BEGINS, A), (SENDS, locked(B, B)), (GETS, C), (ENDS, A))
        self.none(WRONG_END, talk([], [held, held]))

    def test_who_ends_sure_of_another(self):
        asks = part((SENDS, A), (GETS, sealed(together(A, X), B)), (ENDS, together(B, X)))
        replies = part((GETS, X), (BEGINS, together(B, C)), (SENDS, sealed(together(X, C), B)))
        self.none(WRONG_END, talk([B], [asks, replies]))
        told = talk([B, C, own_key(B)], [asks, replies])
        self.first_is(WRONG_END, told, (0,), (0, 0), (0,))


class AllDone(WayCase):
    def test_parts_of_no_events(self):
        for many in (1, 2, 3, 4):
            self.answers(ALL_DONE, talk(parts=[part()] * many), [-1], most=0)
        self.first_is(ALL_DONE, talk([], [part(), part((SENDS, A)), part()]), (1,))

    def test_marks_are_events_too(self):
        self.first_is(ALL_DONE, talk([], [part((BEGINS, A), (ENDS, B))]), (0,), (0,))

    def test_what_another_sends(self):
        waits = part((GETS, A), (SENDS, B))
        sends = part((SENDS, C), (SENDS, A), (GETS, B))
        self.first_is(ALL_DONE, talk([], [waits, sends]), (1,), (1,), (0,), (0,), (1,))
        self.none(ALL_DONE, talk([], [waits, part((GETS, B), (SENDS, A))]))

    def test_names_by_which_the_others_can_go_on(self):
        chooses = part((GETS, X), (SENDS, locked(X, E)))
        waits = part((GETS, locked(C, E)))
        self.first_is(ALL_DONE, talk([A, B, C, D], [chooses, waits]), (0, 2), (0,), (1,))
        self.none(ALL_DONE, talk([A, B, D], [chooses, waits]))
        also_waits = part((GETS, locked(D, E)))
        self.none(ALL_DONE, talk([A, B, C, D], [chooses, waits, also_waits]))
        self.first_is(ALL_DONE, talk([A, B, C, D], [chooses, waits, also_waits, chooses]),
                      (0, 2), (0,), (1,), (3, 3), (3,), (2,))


class Deep(WayCase):
    def few_calls(self, what, told, *rows):
        self.assertLessEqual(len(told), 512)
        answer = steps(*rows)
        self.assertEqual(with_few_calls(way, what, 1000, told), [len(answer)] + answer)

    def test_sorts_of_one(self):
        deep = [PRINT] * 500
        self.few_calls(ALL_DONE, talk([A], [part((GETS, deep + A))]), (0,))
        self.few_calls(ALL_DONE, talk([A], [part((GETS, deep + X))]), (0, 0))
        self.few_calls(SECRET, talk([], [part((SENDS, [OWN_KEY] * 250 + A))], [[OWN_KEY] * 250 + A]), (0,))
        self.assertEqual(way(SECRET, 9, talk([], [part((SENDS, [OWN_KEY] * 250 + A))], [[OWN_KEY] * 249 + A])), [0])
        self.few_calls(SECRET, talk([], [part((SENDS, [PRINT] * 200 + A))], [[PRINT] * 300 + A]), (0,))
        self.assertEqual(way(SECRET, 9, talk([], [part((SENDS, [PRINT] * 300 + A))], [[PRINT] * 200 + A])), [0])

    def test_sorts_of_two(self):
        for sort in SORTS_OF_TWO:
            gets = part((GETS, [sort] * 160 + B * 160 + X))
            self.few_calls(ALL_DONE, talk([A, B, own_key(A), own_key(B)], [gets]), (0, 0))
        for sort in (PAIR, LOCKED, LOCKED_FOR):
            gets = part((GETS, ([sort] + B) * 160 + X))
            self.few_calls(ALL_DONE, talk([A, B, own_key(A), own_key(B)], [gets]), (0, 0))
        gets = part((GETS, ([SEALED] + B) * 160 + X))
        self.assertEqual(with_few_calls(way, ALL_DONE, 9, talk([A, B, own_key(A), own_key(B)], [gets])), [0])

    def test_taken_apart(self):
        self.few_calls(SECRET, talk([], [part((SENDS, [PAIR] * 160 + C + B * 160))], [C]), (0,))
        self.few_calls(SECRET, talk([B], [part((SENDS, [LOCKED] * 160 + C + B * 160))], [C]), (0,))
        self.few_calls(SECRET, talk([own_key(B)], [part((SENDS, [LOCKED_FOR] * 160 + C + B * 160))], [C]), (0,))
        self.few_calls(SECRET, talk([], [part((SENDS, [SEALED] * 160 + C + B * 160))], [C]), (0,))
        told = talk([D], [part((SENDS, [LOCKED] * 160 + C + B * 160))], [C])
        self.assertEqual(with_few_calls(way, SECRET, 9, told), [0])

    def test_a_key_as_deep(self):
        key = [PRINT] * 240
        self.few_calls(SECRET, talk([A], [part((GETS, X), (SENDS, locked(C, key + X)))], [C]), (0, 0), (0,))
        key = [PRINT] * 120
        gets = part((GETS, key + X), (SENDS, locked(C, [PRINT] * 125 + X)))
        self.few_calls(SECRET, talk([key + B], [gets], [C]), (0, 1), (0,))

    def test_ends_as_deep(self):
        ends = part((GETS, X), (ENDS, [PRINT] * 220 + X))
        begins = part((BEGINS, [PRINT] * 220 + A), (SENDS, B))
        self.few_calls(WRONG_END, talk([A], [begins, ends]), (1, 0), (1,))
        ends = part((GETS, B), (GETS, X), (ENDS, [PRINT] * 220 + X))
        self.few_calls(WRONG_END, talk([A], [begins, ends]), (0,), (0,), (1,), (1, 1), (1,))
        self.assertEqual(way(WRONG_END, 99, talk([A], [part((BEGINS, [PRINT] * 220 + B), (SENDS, B)), part(
            (GETS, B), (ENDS, [PRINT] * 220 + B))])), [0])


class AsManyAsMayBe(WayCase):
    """Talks with as many parts, events and unknowns as there may be; no test here may take long."""

    every_name = [together(name(2 * number), name(2 * number + 1)) for number in range(8)]

    def in_turn(self, *rows):
        return [(number,) + row for number in range(4) for row in rows]

    def test_all_events_send(self):
        parts = [part(*[(SENDS, own_key(name(3 * number + place))) for place in range(6)]) for number in range(4)]
        told = talk([], parts, [own_key(name(9))])
        self.first_is(ALL_DONE, told, *self.in_turn((), (), (), (), (), ()))
        self.none(WRONG_END, told)

    def test_a_secret_behind_all_events(self):
        keys = [name(number) for number in range(16)] + [own_key(name(number)) for number in range(9)]
        parts = [part(*[(SENDS, locked(keys[4 * place + number + 1], keys[4 * place + number])) for place in range(6)])
                 for number in range(4)]
        self.first_is(SECRET, talk([keys[0]], parts, [keys[24]]), *self.in_turn((), (), (), (), (), ()))
        self.none(SECRET, talk([keys[1]], parts, [keys[24], name(0)][1:]))

    def test_sixteen_unknowns_and_sixteen_names(self):
        gets = part((GETS, X), (GETS, Y), (GETS, Z), (GETS, W), (SENDS, print_of(together(X, Y, Z, W))), (ENDS, W))
        told = talk(self.every_name, [gets] * 4, [own_key(A)])
        self.none(SECRET, told)
        self.first_is(WRONG_END, told, *[(0, 0)] * 4, (0,), (0,))
        self.first_is(ALL_DONE, told, *self.in_turn((0,), (0,), (0,), (0,), (), ()))

    def test_four_unknowns_at_a_time(self):
        gets = part((GETS, together(X, Y, Z, W)), (BEGINS, together(X, Y)), (SENDS, locked(B, together(Z, W, own_key(A)))),
                    (ENDS, together(Z, W)))
        told = talk(self.every_name, [gets] * 4, [own_key(A)])
        self.none(SECRET, told)
        self.first_is(WRONG_END, told, (0, 0, 0, 0, 0), (0,), (0,), (0,))
        self.first_is(ALL_DONE, told, *self.in_turn((0, 0, 0, 0), (), (), ()))

    def test_the_greatest_names_are_asked_for(self):
        gets = part((GETS, together(X, Y, Z, W)), (SENDS, print_of(own_key(X))), (GETS, locked(together(X, Y), E)),
                    (GETS, locked(together(Z, W), E)))
        names = [name(12), name(13), name(14), name(15)]
        known = self.every_name[:2] + self.every_name[4:] + [
            locked(together(names[3], names[2]), own_key(E)), locked(together(names[1], names[0]), E)]
        told = talk(known, [gets] * 4)
        self.none(ALL_DONE, talk(known[:-1], [gets] * 4))
        self.first_is(ALL_DONE, told, *self.in_turn((13, 12, 13, 12), (), (), ()))

    def test_each_part_could_but_for_one_name(self):
        """Each gives the secret locked twice, by keys that hold the same unknown but ask for different names."""
        twice = locked(locked(name(15), print_of(together(X, name(9)))), print_of(together(X, name(10))))
        gets = part((GETS, X), (GETS, Y), (GETS, Z), (GETS, W), (SENDS, twice), (SENDS, print_of(together(X, Y, Z, W))))
        known = self.every_name[:4] + [print_of(together(A, name(9))), print_of(together(B, name(10)))]
        self.none(SECRET, talk(known, [gets] * 4, [name(15)]))
        known[5] = print_of(together(A, name(10)))
        self.first_is(SECRET, talk(known, [gets] * 4, [name(15)]), *[(0, 0)] * 4, (0,))

    def test_what_comes_too_late(self):
        """The fourth would give the secret away if it got what its own later word opens; the others say all again."""
        says_again = part((GETS, together(X, Y)), (GETS, together(Z, W)), (SENDS, locked_for(X, C)),
                          (SENDS, together(X, Y)), (SENDS, together(Z, W)), (SENDS, locked(together(X, Y, Z, W), X)))
        fourth = part((GETS, locked_for(W, Z)), (GETS, Y), (SENDS, sealed(name(9), name(9))), (SENDS, together(Z, W)))
        known = [together(D, E), together(B, A), together(name(10), name(8)), together(name(11), name(5)),
                 locked(locked_for(name(6), A), print_of(together(name(11), name(9))))]
        told = talk(known, [says_again] * 3 + [fourth], [name(6)])
        self.none(SECRET, told)
        self.none(WRONG_END, told)
        fourth = part((GETS, Y), (SENDS, sealed(name(9), name(9))), (GETS, locked_for(W, Z)), (SENDS, together(Z, W)))
        told = talk(known, [says_again] * 3 + [fourth], [name(6)])
        self.first_is(SECRET, told, (3, 0), (3,), (3, 0, 6), (3,))

    def test_ends_with_what_another_said(self):
        """What the last ends with was said by one of the others, who all began with it, whatever the names."""
        four = together(X, Y, Z, W)
        begins = part((GETS, four), (BEGINS, four), (SENDS, locked(four, own_key(E))), (SENDS, locked(D, own_key(E))))
        ends = part((GETS, locked(D, own_key(E))), (GETS, locked(four, own_key(E))), (ENDS, four))
        self.none(WRONG_END, talk(self.every_name, [begins] * 3 + [ends]))
        passes_on = part((GETS, locked(four, own_key(E))), (SENDS, locked(four, own_key(D))))
        ends = part((GETS, locked(together(W, Z, Y, X), own_key(D))), (ENDS, together(W, Z, Y, X)))
        self.none(WRONG_END, talk(self.every_name, [begins, passes_on, ends, ends]))
        ends = part((GETS, locked(four, own_key(D))), (ENDS, together(W, Z, Y, X)))
        self.first_is(WRONG_END, talk(self.every_name, [begins, passes_on, ends, ends]),
                      (0, 0, 0, 0, 1), (0,), (0,), (1, 0, 0, 0, 1), (1,), (2, 0, 0, 0, 1), (2,))

    def test_ends_with_what_two_others_said(self):
        begins = part((GETS, together(X, Y, Z, W)), (BEGINS, together(X, Y, Z, W)),
                      (SENDS, locked(together(X, Y), own_key(E))), (SENDS, locked(together(Z, W), own_key(D))))
        ends = part((GETS, locked(together(X, Y), own_key(E))), (GETS, locked(together(Z, W), own_key(D))),
                    (ENDS, together(X, Y, Z, W)))
        self.none(WRONG_END, talk(self.every_name, [begins, ends, ends, ends]))
        self.first_is(WRONG_END, talk(self.every_name, [begins, begins, ends, ends]),
                      (0, 0, 0, 0, 0), (0,), (0,), (0,), (1, 0, 1, 0, 1), (1,), (1,), (2, 0, 1), (2, 0, 0), (2,))

    def test_one_key_from_each_part(self):
        def told(keys):
            known = [together(*[name(number) for number in range(5)]),
                     together(*[locked(name(6 + number), print_of(together(name(number), name(15))))
                                for number in range(keys)])]
            secret = own_key(name(15))
            for number in range(keys):
                secret = locked(secret, name(6 + number))
            asks = part((GETS, X), (SENDS, print_of(together(X, name(15)))))
            return talk(known + [secret], [asks] * 4, [own_key(name(15))])

        self.none(SECRET, told(5))
        self.first_is(SECRET, told(4), (0, 0), (0,), (1, 1), (1,), (2, 2), (2,), (3, 3), (3,))

    def test_a_talk_of_512_bytes(self):
        gets = part((GETS, X), (GETS, Y), (GETS, Z), (GETS, W), (GETS, locked(together(X, Y, Z, W), own_key(E))),
                    (SENDS, X))
        known = self.every_name[:4]
        told = talk(known + [[PRINT] * 300 + A], [gets] * 4, [own_key(E), name(14)])
        rest = 512 - len(told)
        told = talk(known + [[PRINT] * (300 + rest) + A], [gets] * 4, [own_key(E), name(14)])
        self.assertEqual(len(told), 512)
        for what in EACH:
            self.none(what, told)


class HandedIn(WayCase):
    def several(self):
        told = talk([A], [part((GETS, X), (SENDS, locked(B, X)), (ENDS, X))], [B])
        return [
            ((SECRET, 100, told), [5, 0, 1, 0, 0, 0]),
            ((WRONG_END, 100, told), [7, 0, 1, 0, 0, 0, 0, 0]),
            ((ALL_DONE, 7, told), [7, 0, 1, 0, 0, 0, 0, 0]),
            ((ALL_DONE, 6, told), [-4]),
            ((SECRET, 100, talk([A], [part()], [A])), [-1]),
            ((SECRET, 100, talk([A], [part()], [B])), [0]),
            ((3, 100, told), [-2]),
            ((0, -1, told), [-2]),
            ((0, 0, [0] * 513), [-2]),
            ((0, 0, []), [-3]),
        ]

    def test_the_list_is_as_it_was(self):
        for (what, most, told), answer in self.several():
            handed_in = FixedList(told)
            self.assertEqual(way(what, most, handed_in), answer)
            self.assertEqual(list(handed_in), told)

    def test_a_second_call_answers_as_the_first_did(self):
        for given, answer in self.several() + self.several()[::-1]:
            self.assertEqual(way(*given), answer)
            self.assertEqual(way(*given), answer)

    def test_a_changed_answer_changes_no_later_one(self):
        for given, answer in self.several():
            way(*given).append(99)
            self.assertEqual(way(*given), answer)

    def test_nothing_is_printed(self):
        for given, answer in self.several():
            out, err = io.StringIO(), io.StringIO()
            with contextlib.redirect_stdout(out), contextlib.redirect_stderr(err):
                way(*given)
            self.assertEqual(out.getvalue() + err.getvalue(), "")

    def test_all_is_handed_in_by_its_name(self):
        self.assertEqual(list(inspect.signature(way).parameters), ["what", "most", "talk"])
        self.assertEqual(way(what=2, most=0, talk=talk()), [-1])


class ByChance(WayCase):
    def compared(self, told, found):
        """Answers are as the slow and plain reading says; notes them in found."""
        if len(told) > 512:
            return
        for what in EACH:
            try:
                answer = SlowTalk(told).way(what)
            except TooMany:
                continue
            found.setdefault(what, set()).add(min(answer[0], 20))
            self.answers(what, told, answer)

    def test_terms_that_look_alike(self):
        found = {}
        for seed in range(700):
            self.compared(Chance(random.Random(seed)).talk(), found)
        for what in EACH:
            self.assertGreater(len(found[what]), 8, found)

    def test_names_that_are_passed_on(self):
        found = {}
        for seed in range(700):
            self.compared(Chance(random.Random(seed)).passing_talk(), found)
        self.assertGreater(len(found[WRONG_END]), 12, found)
        self.assertGreater(len(found[ALL_DONE]), 12, found)


if __name__ == "__main__":
    unittest.main()
