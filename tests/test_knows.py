"""Promise 4: knows, and with it what can be known; and that no call has a bearing on another."""

import contextlib
import inspect
import io
import random
import unittest

from talkwatch.desk import check, follow, knows, way
from tests.helper import (
    BEGINS, ENDS, GETS, LOCKED, LOCKED_FOR, OWN_KEY, PAIR, PRINT, SEALED, SENDS, SORTS_OF_ONE, SORTS_OF_TWO, Chance,
    FixedList, SlowTalk, around, inner_terms, locked, locked_for, name, own_key, part, print_of, sealed, steps, talk,
    tell_term, together, unknown, unknowns_in, with_few_calls,
)

A, B, C, D, E = [name(number) for number in range(5)]
X, Y, Z, W = [unknown(number) for number in range(4)]


class KnowsCase(unittest.TestCase):
    def answers(self, told, way_told, term, answer):
        got = knows(list(told), list(way_told), list(term))
        self.assertEqual(got, [answer], (told, way_told, term))
        self.assertIs(type(got), list)
        self.assertIs(type(got[0]), int)

    def known(self, terms, term):
        """At first, and by what is sent."""
        self.answers(talk(terms, [part()]), [], term, 1)
        sends = [part(*[(SENDS, sent) for sent in terms[:6]])]
        self.answers(talk(terms[6:], sends), steps(*[(0,)] * len(terms[:6])), term, 1)

    def not_known(self, terms, term):
        self.answers(talk(terms, [part()]), [], term, 0)
        sends = [part(*[(SENDS, sent) for sent in terms[:6]])]
        self.answers(talk(terms[6:], sends), steps(*[(0,)] * len(terms[:6])), term, 0)

    def needs_all(self, terms, term):
        self.known(terms, term)
        self.known(terms[::-1], term)
        for lacking in range(len(terms)):
            self.not_known(terms[:lacking] + terms[lacking + 1:], term)


class OrdinaryCalls(KnowsCase):
    def test_at_first(self):
        told = talk([A, locked(B, C)], [part((SENDS, C), (SENDS, D))], [D])
        for term, answer in ((A, 1), (B, 0), (C, 0), (D, 0), (locked(B, C), 1), (locked(A, C), 0),
                             (print_of(together(A, A)), 1)):
            self.answers(told, [], term, answer)

    def test_what_comes_to_be_known_by_one_step(self):
        told = talk([A, locked(B, C)], [part((SENDS, C), (SENDS, D))], [D])
        for term, answers in ((A, (1, 1, 1)), (B, (0, 1, 1)), (C, (0, 1, 1)), (D, (0, 0, 1)), (E, (0, 0, 0)),
                              (locked(A, C), (0, 1, 1)), (locked_for(B, D), (0, 0, 1))):
            for many, answer in enumerate(answers):
                self.answers(told, steps(*[(0,)] * many), term, answer)

    def test_several_parts(self):
        parts = [part((GETS, locked(X, B)), (SENDS, X)), part((SENDS, locked(C, B))), part((SENDS, locked(D, C))),
                 part((SENDS, E))]
        told = talk([], parts)
        rows = [(1,), (0, 2), (2,), (0,)]
        for many, answer in enumerate((0, 0, 0, 0, 1)):
            self.answers(told, steps(*rows[:many]), D, answer)
        self.answers(told, steps(*rows), E, 0)
        self.answers(told, steps(*rows, (3,)), E, 1)

    def test_marks_and_what_is_got_bring_nothing(self):
        told = talk([locked(A, B)], [part((BEGINS, C), (ENDS, D), (GETS, locked(X, B)))])
        for term in (A, B, C, D, E):
            self.answers(told, steps((0,), (0,), (0, 0)), term, 0)

    def test_secrets_are_not_known_for_being_so(self):
        self.answers(talk([], [part((SENDS, A))], [A]), [], A, 0)
        self.answers(talk([], [part((SENDS, A))], [A]), [0, 0], A, 1)

    def test_behind_what_way_answers_a_secret_is_known(self):
        first = part((GETS, X), (BEGINS, X), (SENDS, locked_for(together(D, A), X)))
        told = talk([A, B, C, own_key(C)], [first], [D])
        found = way(0, 144, told)
        self.answers(told, found[1:], D, 1)
        self.answers(told, found[1:-2], D, 0)

    def test_unknowns_are_replaced(self):
        told = talk([A, B, C], [part((GETS, X), (SENDS, locked(D, X)), (SENDS, print_of(together(X, E))))] * 2)
        for number in range(3):
            behind = steps((0, number), (0,), (0,))
            self.answers(told, behind, D, 1)
            for other in range(4):
                self.answers(told, behind, print_of(together(name(other), E)), int(other == number))
        behind = steps((0, 1), (1, 2), (0,), (0,), (1,))
        self.answers(told, behind, print_of(together(B, E)), 1)
        self.answers(told, behind, print_of(together(C, E)), 0)
        self.answers(told, behind + [1, 0], print_of(together(C, E)), 1)

    def test_a_name_that_no_term_holds(self):
        self.answers(talk([A], [part()]), [], name(15), 0)
        self.answers(talk([name(15)], [part()]), [], name(15), 1)
        self.answers(talk([name(15)], [part()]), [], name(0), 0)


class Bounds(KnowsCase):
    def setUp(self):
        self.told = talk([A], [part((SENDS, A), (SENDS, B))])

    def test_how_long_the_term_is(self):
        self.answers(self.told, [], [], -2)
        for length in (1, 2, 63, 64):
            self.answers(self.told, [], [255] * length, -6)
        for length in (65, 66, 99, 100):
            self.answers(self.told, [], [255] * length, -2)
            self.answers(self.told, [], [0] * length, -2)
            self.answers(self.told, [], [PRINT] * (length - 2) + A, -2)
        self.answers(self.told, [], [PRINT] * 61 + A, 1)
        self.answers(self.told, [], [PRINT] * 62 + A, 1)
        self.answers(self.told, [], [PRINT] * 62 + B, 0)

    def test_how_long_the_way_is(self):
        for length in (143, 144):
            self.answers(self.told, [0] * length, A, -5)
            self.answers(self.told, [255] * length, A, -5)
        for length in (145, 199, 200):
            self.answers(self.told, [0] * length, A, -2)
            self.answers(self.told, [255] * length, A, -2)

    def test_which_refusal_goes_first(self):
        long_talk = talk(parts=[part((SENDS, [PRINT] * 506 + A))])
        self.assertEqual(len(long_talk), 513)
        ways = ([], [0, 0], [9], [0] * 144, [0] * 145, [0] * 200)
        terms = ([], A, [8], [0, 16], X, [255] * 64, [255] * 65, [0] * 100)
        for way_told in ways:
            for term in terms:
                self.answers(long_talk, way_told, term, -2)
                self.answers([255] * 600, way_told, term, -2)
                for no_talk in ([], [0, 0, 0], self.told + [0], self.told[:-1]):
                    self.answers(no_talk, way_told, term, -3)
                if len(way_told) > 144 or not 1 <= len(term) <= 64:
                    self.answers(self.told, way_told, term, -2)
                elif way_told not in ([], [0, 0]):
                    self.answers(self.told, way_told, term, -5)
                else:
                    self.answers(self.told, way_told, term, 1 if term == A else -6)

    def test_bytes_that_tell_no_way(self):
        told = talk([A, print_of(B)], [part((GETS, X), (SENDS, X)), part((SENDS, B))])
        for way_told in ([0], [0, 0], [0, 1], [0, 1, 1], [0, 1, 16], [0, 2, 0, 0], [2, 0], [255, 0], [1, 0, 1, 0],
                         [1, 1, 0], [1, 0, 0], [0, 1, 0, 0, 1, 0]):
            self.answers(told, way_told, A, -5)
            self.answers(told, way_told, [8], -5)
            self.assertEqual(follow(told, way_told), [-5])
        self.answers(told, [1, 0, 0, 1, 1, 0, 0], B, 1)


class Terms(KnowsCase):
    def setUp(self):
        self.told = talk([together(*[name(number) for number in range(16)])], [part((GETS, X), (GETS, together(Y, W)))])
        self.behind = steps((0, 3), (0, 4, 5))

    def refused(self, term):
        self.answers(self.told, [], term, -6)
        self.answers(self.told, self.behind, term, -6)

    def test_names(self):
        for number in range(16):
            self.answers(self.told, [], name(number), 1)
        for number in (16, 17, 255):
            self.refused(name(number))
            for term in around(name(number)):
                self.refused(term)

    def test_unknowns(self):
        for number in (0, 1, 2, 3, 4, 255):
            self.refused(unknown(number))
            for term in around(unknown(number)):
                self.refused(term)
                for outer in around(term):
                    self.refused(outer)

    def test_the_name_7_is_no_unknown(self):
        for term in (name(7), print_of(name(7)), together(name(7), name(7)), locked(name(7), name(0))):
            self.answers(self.told, [], term, 1)

    def test_an_unknown_at_the_very_bottom(self):
        for sort in SORTS_OF_ONE:
            self.refused([sort] * 62 + X)
            self.refused([sort] * 62 + [7, 4])
        for sort in SORTS_OF_TWO:
            self.refused([sort] * 20 + X + A * 20)
            self.refused([sort] * 20 + A * 20 + X)

    def test_bytes_that_end_too_soon(self):
        term = [PAIR] + locked(A, B) + [SEALED] + print_of(C) + own_key(locked_for(D, E))
        self.assertIn(knows(self.told, [], term), ([0], [1]))
        for length in range(1, len(term)):
            self.refused(term[:length])
        for sort in SORTS_OF_ONE + SORTS_OF_TWO:
            for length in (1, 2, 63, 64):
                self.refused([sort] * length)

    def test_bytes_left_over(self):
        for term in (A, together(A, B), print_of(A), own_key(A), locked(A, B)):
            for number in range(256):
                self.refused(term + [number])
            self.refused(term + term)

    def test_bytes_that_begin_none(self):
        for number in (8, 9, 16, 128, 255):
            for term in ([number], [number] + A, [number] + A + B):
                self.refused(term)
            for term in around([number] + A):
                self.refused(term)


class WhatCanBeKnown(KnowsCase):
    def test_together(self):
        self.needs_all([A, B], together(A, B))
        self.needs_all([together(A, B)], A)
        self.needs_all([together(A, B)], B)
        self.needs_all([together(C, together(A, B))], B)
        self.needs_all([together(A, B)], together(B, A))

    def test_locked_by(self):
        self.needs_all([A, B], locked(A, B))
        self.needs_all([locked(A, B), B], A)
        self.needs_all([locked(A, own_key(B)), own_key(B)], A)
        self.not_known([locked(A, B), A], B)
        self.not_known([locked(A, B), own_key(B)], A)
        self.not_known([locked(A, B), C, A], locked(C, B))

    def test_locked_for(self):
        self.needs_all([A, B], locked_for(A, B))
        self.needs_all([locked_for(A, B), own_key(B)], A)
        self.not_known([locked_for(A, B), B], A)
        self.not_known([locked_for(A, B), own_key(A)], A)
        self.not_known([locked_for(A, B), own_key(B)], B)
        self.not_known([A, own_key(B)], locked_for(A, B))
        self.not_known([locked_for(A, own_key(B)), own_key(B)], A)
        self.needs_all([locked_for(A, own_key(B)), own_key(own_key(B))], A)

    def test_sealed(self):
        self.needs_all([A, B, own_key(B)], sealed(A, B))
        self.needs_all([sealed(A, B)], A)
        self.not_known([sealed(A, B)], B)
        self.not_known([sealed(A, B)], own_key(B))
        self.needs_all([A, together(B, C), own_key(together(B, C))], sealed(A, together(B, C)))
        self.not_known([A, B, C, own_key(B), own_key(C)], sealed(A, together(B, C)))

    def test_print(self):
        self.needs_all([A], print_of(A))
        self.needs_all([print_of(A)], print_of(A))
        self.not_known([print_of(A)], A)
        self.needs_all([A, B], print_of(locked(A, B)))
        self.not_known([print_of(A), print_of(B)], print_of(together(A, B)))

    def test_own_key(self):
        self.needs_all([own_key(A)], own_key(A))
        self.not_known([A], own_key(A))
        self.not_known([own_key(A)], A)
        self.not_known([A, B, own_key(A)], own_key(B))

    def test_what_is_taken_apart_gives_the_key_for_another(self):
        self.needs_all([locked(B, A), locked(C, B), locked(D, C), locked(E, D), A], E)
        self.needs_all([locked(together(B, C), A), locked(D, C), locked(E, together(B, D)), A], E)
        self.needs_all([sealed(A, B), locked(sealed(locked(E, C), D), A), C], E)

    def test_a_key_that_must_be_put_together_first(self):
        self.needs_all([locked(E, together(A, print_of(B))), A, B], E)
        self.needs_all([locked(E, sealed(A, B)), A, B, own_key(B)], E)
        self.needs_all([locked(E, locked(A, B)), locked(A, C), B, C], E)
        self.needs_all([locked(E, locked_for(A, B)), together(A, B)], E)

    def test_an_own_key_only_from_another_locked_term(self):
        self.needs_all([locked_for(E, A), locked_for(own_key(A), B), own_key(B)], E)
        self.needs_all([locked_for(E, A), locked(own_key(A), print_of(B)), B], E)
        self.not_known([locked_for(E, A), locked_for(own_key(A), A), A], E)
        self.not_known([locked_for(E, A), locked_for(own_key(A), B), locked_for(own_key(B), A)], E)

    def test_the_locked_term_itself(self):
        for term in (locked(A, B), locked_for(A, B), own_key(A), print_of(A), sealed(own_key(C), B)):
            self.needs_all([term], term)
            self.needs_all([term, E], locked(E, term))
            self.needs_all([term], print_of(print_of(term)))
        for term in (locked(A, B), locked_for(A, B), own_key(A), print_of(A)):
            self.not_known([term], A)

    def test_from_nothing_comes_nothing(self):
        for term in [A, name(7)] + around(A):
            self.not_known([], term)
        for term in around(A):
            self.not_known([B], term)


class Deep(KnowsCase):
    def few_calls(self, told, way_told, term, answer):
        self.assertLessEqual(len(told), 512)
        self.assertLessEqual(len(term), 64)
        self.assertEqual(with_few_calls(knows, told, way_told, term), [answer])

    def test_terms_as_deep_as_may_be(self):
        for sort, answer in ((PRINT, 1), (OWN_KEY, 0)):
            self.few_calls(talk([A], [part()]), [], [sort] * 62 + A, answer)
            self.few_calls(talk([B], [part()]), [], [sort] * 62 + A, 0)
            self.few_calls(talk([], [part((SENDS, [sort] * 62 + A))]), [0, 0], [sort] * 62 + A, 1)
        for sort in SORTS_OF_TWO:
            term = [sort] * 20 + C + B * 20
            self.few_calls(talk([B, C, own_key(B)], [part()]), [], term, 1)
            self.few_calls(talk([B, own_key(B)], [part()]), [], term, 0)
            term = ([sort] + B) * 20 + C
            self.few_calls(talk([B, C, own_key(B)], [part()]), [], term, 0 if sort == SEALED else 1)
        for sort in (PAIR, LOCKED, LOCKED_FOR):
            self.few_calls(talk([B], [part()]), [], ([sort] + B) * 20 + C, 0)

    def test_talks_as_deep_as_may_be(self):
        self.few_calls(talk([[PAIR] * 167 + C + B * 167], [part()]), [], C, 1)
        self.few_calls(talk([[SEALED] * 167 + C + B * 167], [part()]), [], C, 1)
        self.few_calls(talk([[SEALED] * 167 + C + B * 167], [part()]), [], B, 0)
        self.few_calls(talk([[PRINT] * 500 + C], [part()]), [], C, 0)
        for sort, key in ((LOCKED, B), (LOCKED_FOR, own_key(B))):
            self.few_calls(talk([key, [sort] * 165 + C + B * 165], [part()]), [], C, 1)
            self.few_calls(talk([D, [sort] * 165 + C + B * 165], [part()]), [], C, 0)
            self.few_calls(talk([[sort] * 165 + C + B * 165], [part((SENDS, key))]), [0, 0], C, 1)

    def test_a_key_as_deep(self):
        told = talk([], [part((SENDS, locked(C, [PRINT] * 240 + A)), (SENDS, [PRINT] * 240 + B), (SENDS, A))])
        self.few_calls(told, steps((0,), (0,)), C, 0)
        self.few_calls(told, steps((0,), (0,), (0,)), C, 1)


class HandedIn(KnowsCase):
    def several(self):
        told = talk([A], [part((GETS, X), (SENDS, locked(B, X)))], [B])
        return [
            ((told, [], B), 0),
            ((told, [0, 1, 0, 0, 0], B), 1),
            ((told, [0, 1, 0], B), 0),
            ((told, [0, 1, 1], B), -5),
            ((told, [], X), -6),
            ((told, [], []), -2),
            ((told, [0] * 145, B), -2),
            (([], [0] * 145, []), -3),
            (([0] * 513, [], B), -2),
        ]

    def test_the_lists_are_as_they_were(self):
        for given, answer in self.several():
            handed_in = [FixedList(row) for row in given]
            self.assertEqual(knows(*handed_in), [answer])
            self.assertEqual([list(row) for row in handed_in], [list(row) for row in given])

    def test_one_list_for_all(self):
        told = FixedList(talk([A], [part((SENDS, A))]))
        self.assertEqual(knows(told, told, told), [-5])
        self.assertEqual(follow(told, told), [-5])

    def test_a_second_call_answers_as_the_first_did(self):
        for given, answer in self.several() + self.several()[::-1]:
            self.answers(*given, answer)
            self.answers(*given, answer)

    def test_a_changed_answer_changes_no_later_one(self):
        for given, answer in self.several():
            knows(*given).append(99)
            self.answers(*given, answer)

    def test_nothing_is_printed(self):
        for given, answer in self.several():
            out, err = io.StringIO(), io.StringIO()
            with contextlib.redirect_stdout(out), contextlib.redirect_stderr(err):
                knows(*given)
            self.assertEqual(out.getvalue() + err.getvalue(), "")

    def test_all_is_handed_in_by_its_name(self):
        self.assertEqual(list(inspect.signature(knows).parameters), ["talk", "steps", "term"])
        self.assertEqual(knows(talk=talk([A]), steps=[], term=A), [1])

    def test_calls_between_change_no_answer(self):
        told = talk([A, C], [part((GETS, X), (SENDS, locked(B, X)), (ENDS, X)), part((BEGINS, A))], [B])
        calls = [
            (check, (told,)), (way, (0, 144, told)), (way, (1, 144, told)), (way, (2, 144, told)), (way, (0, 1, told)),
            (follow, (told, [])), (follow, (told, [0, 1, 2, 1, 0])), (follow, (told, [0, 1, 1])),
            (knows, (told, [], B)), (knows, (told, [0, 1, 2, 0, 0], B)), (knows, (told, [0, 1, 2], X)),
            (check, (told[:-1],)), (way, (2, 0, [])),
        ]
        answers = [call(*given) for call, given in calls]
        chance = random.Random(4)
        for turn in range(300):
            place = chance.randrange(len(calls))
            call, given = calls[place]
            self.assertEqual(call(*given), answers[place])


class ByChance(KnowsCase):
    def test_as_the_slow_and_plain_reading_says(self):
        counts = {-5: 0, 0: 0, 1: 0}
        for seed in range(500):
            chance = random.Random(seed)
            told = Chance(chance).talk()
            slow = SlowTalk(told)
            way_told = slow.some_way(chance)
            if chance.random() < 0.1:
                way_told = way_told + [chance.randrange(5), chance.randrange(2)]
            state = slow.follow(way_told)
            for term in self.some_terms(chance, slow):
                answer = -5 if state is None else slow.knows(state, term)
                counts[answer] += 1
                self.answers(told, way_told, term, answer)
        self.assertGreater(min(counts.values()), 100, counts)

    def some_terms(self, chance, slow):
        """Some that stand in the talk, and some that don't."""
        pool = set()
        for term in slow.known + slow.secrets + [term for events in slow.parts for kind, term in events]:
            pool |= {inner for inner in inner_terms(term) if not unknowns_in(inner)}
        found = [tell_term(term) for term in chance.sample(sorted(pool, key=str), min(len(pool), 6))]
        maker = Chance(chance)
        found += [tell_term(maker.term(2)) for number in range(4)]
        return [term for term in found if len(term) <= 64]


if __name__ == "__main__":
    unittest.main()
