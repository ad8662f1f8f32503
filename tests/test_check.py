"""Promise 1: check, and what a term and a talk are."""

import contextlib
import inspect
import io
import unittest

from talkwatch.desk import check
from tests.helper import (
    BEGINS, ENDS, GETS, LOCKED, LOCKED_FOR, MARKING_KINDS, OWN_KEY, PAIR, PRINT, SEALED, SENDS, SORTS_OF_ONE,
    SORTS_OF_TWO, FixedList, around, part, talk, unknown, with_few_calls,
)

A = [0, 0]
B = [0, 1]
KEY = [0, 2]


def in_each_place(term):
    """Talks in which `term` stands with the enemy, in an event that gets, and among the secrets."""
    return [talk(known=[term]), talk(parts=[part((GETS, term))]), talk(secrets=[term])]


class CheckCase(unittest.TestCase):
    def answers(self, numbers, answer):
        got = check(list(numbers))
        self.assertEqual(got, [answer], numbers)
        self.assertIs(type(got), list)
        self.assertIs(type(got[0]), int)


class OrdinaryTalks(CheckCase):
    def test_one_part(self):
        self.answers([0, 1, 1, 1, 0, 5, 0], 1)
        self.answers(talk([A], [part((SENDS, A), (GETS, B))], [B]), 2)

    def test_two_parts(self):
        asks = part((BEGINS, B), (SENDS, [LOCKED_FOR] + KEY + B), (GETS, [PRINT] + KEY))
        replies = part((GETS, [LOCKED_FOR] + unknown(0) + B), (SENDS, [PRINT] + unknown(0)), (ENDS, B))
        self.answers(talk([A, B], [asks, replies], [KEY]), 6)

    def test_three_parts(self):
        parts = [part((SENDS, A)), part(), part((GETS, unknown(1)), (SENDS, unknown(1)))]
        self.answers(talk([A], parts), 3)

    def test_four_parts(self):
        parts = [part(*[(SENDS, A)] * many) for many in (1, 2, 3, 4)]
        self.answers(talk(parts=parts, secrets=[A, B]), 10)

    def test_neither_known_terms_nor_secrets_are_counted(self):
        self.answers(talk([A] * 8, [part()], [B] * 4), 0)


class Length(CheckCase):
    def of_length(self, length):
        """A talk of so many bytes, whose one event's term is as long as it can be."""
        told = talk(parts=[part((SENDS, [PRINT] * (length - 7) + A))])
        self.assertEqual(len(told), length)
        return told

    def test_512_bytes(self):
        self.answers(self.of_length(511), 1)
        self.answers(self.of_length(512), 1)

    def test_more_than_512_bytes(self):
        self.answers(self.of_length(513), -2)
        self.answers(self.of_length(600), -2)

    def test_too_long_goes_ahead_of_no_talk(self):
        for length in (513, 600):
            self.answers([255] * length, -2)
            self.answers([0] * length, -2)
            self.answers(talk() + [0] * (length - len(talk())), -2)
            self.answers(self.of_length(length + 1)[:length], -2)

    def test_512_bytes_that_are_no_talk(self):
        self.answers([255] * 512, -3)
        self.answers(self.of_length(512)[:-1] + [1], -3)
        self.answers(self.of_length(511) + [0], -3)

    def test_no_bytes(self):
        self.answers([], -3)

    def test_the_shortest_talk(self):
        self.answers([0, 1, 0, 0], 0)

    def test_bytes_that_end_too_soon(self):
        term = [PAIR] + [LOCKED] + A + KEY + [SEALED] + B + [OWN_KEY] + B
        told = talk([term], [part((GETS, unknown(2)), (SENDS, [PRINT] + unknown(2))), part((ENDS, term))], [term])
        self.answers(told, 3)
        for length in range(len(told)):
            self.answers(told[:length], -3)

    def test_bytes_left_over(self):
        told = talk([A], [part((SENDS, A))], [B])
        for number in range(256):
            self.answers(told + [number], -3)
        self.answers(told + told, -3)


class Counts(CheckCase):
    def test_terms_that_the_enemy_knows(self):
        for many in range(9):
            self.answers(talk(known=[A] * many), 0)
        for many in (9, 10):
            self.answers(talk(known=[A] * many), -3)

    def test_parts(self):
        self.answers(talk(parts=[]), -3)
        for many in (1, 2, 3, 4):
            self.answers(talk(parts=[part((SENDS, A))] * many), many)
        for many in (5, 6):
            self.answers(talk(parts=[part((SENDS, A))] * many), -3)

    def test_no_parts_and_nothing_behind(self):
        self.answers([0, 0], -3)
        self.answers([0, 0, 0], -3)

    def test_events(self):
        for many in range(7):
            self.answers(talk(parts=[part(*[(SENDS, A)] * many)]), many)
        for many in (7, 8):
            self.answers(talk(parts=[part(*[(SENDS, A)] * many)]), -3)

    def test_too_many_events_in_a_later_part(self):
        full = part(*[(SENDS, A)] * 6)
        self.answers(talk(parts=[full] * 4), 24)
        self.answers(talk(parts=[full] * 3 + [part(*[(SENDS, A)] * 7)]), -3)

    def test_secrets(self):
        for many in range(5):
            self.answers(talk(secrets=[A] * many), 0)
        for many in (5, 6):
            self.answers(talk(secrets=[A] * many), -3)

    def test_kinds_of_event(self):
        for kind in (GETS, SENDS, BEGINS, ENDS):
            self.answers(talk(parts=[part((kind, A))]), 1)
        for kind in (4, 5, 7, 255):
            self.answers(talk(parts=[part((kind, A))]), -3)


class Terms(CheckCase):
    def term_stands(self, term):
        for told, events in zip(in_each_place(term), (0, 1, 0)):
            self.answers(told, events)

    def term_is_refused(self, term):
        for told in in_each_place(term):
            self.answers(told, -3)

    def test_names(self):
        for name in range(16):
            self.term_stands([0, name])
        for name in (16, 17, 255):
            self.term_is_refused([0, name])
            for term in around([0, name]):
                self.term_is_refused(term)

    def test_unknowns(self):
        for number in range(4):
            self.answers(talk(parts=[part((GETS, unknown(number)))]), 1)
        for number in (4, 5, 255):
            self.term_is_refused(unknown(number))
            for term in around(unknown(number)):
                self.term_is_refused(term)

    def test_each_sort_that_holds_terms(self):
        for term in around(B):
            self.term_stands(term)
            for outer in around(term):
                self.term_stands(outer)

    def test_sorts_of_one_hold_no_second_term(self):
        for sort in SORTS_OF_ONE:
            self.term_is_refused([sort] + A + B)

    def test_sorts_of_two_hold_no_third_term_and_need_a_second(self):
        for sort in SORTS_OF_TWO:
            self.term_is_refused([sort] + A + B + A)
            self.term_is_refused([sort] + A)

    def test_bytes_that_begin_no_term(self):
        for number in (8, 9, 16, 255):
            for term in ([number], [number] + A, [number] + A + B):
                self.term_is_refused(term)
            for term in around([number] + A):
                self.term_is_refused(term)


class WholeTerms(CheckCase):
    def test_an_unknown_in_what_the_enemy_knows(self):
        for term in [unknown(0), unknown(3)] + around(unknown(0)) + around(unknown(3)):
            self.answers(talk(known=[term]), -3)
            self.answers(talk(known=[A, term]), -3)

    def test_an_unknown_in_a_secret(self):
        for term in [unknown(0), unknown(3)] + around(unknown(0)) + around(unknown(3)):
            self.answers(talk(secrets=[term]), -3)
            self.answers(talk(secrets=[A, term]), -3)

    def test_that_a_part_got_the_unknown_makes_no_secret_whole(self):
        self.answers(talk(parts=[part((GETS, unknown(0)))], secrets=[unknown(0)]), -3)

    def test_the_name_7_is_no_unknown(self):
        for term in [[0, 7]] + around([0, 7]) + [[PAIR, 0, 7, 0, 7]]:
            self.answers(talk([term], [part(*[(kind, term) for kind in MARKING_KINDS])], [term]), 3)


class UnknownsInEvents(CheckCase):
    def test_got_in_an_earlier_event(self):
        for kind in MARKING_KINDS:
            for number in range(4):
                self.answers(talk(parts=[part((GETS, unknown(number)), (kind, unknown(number)))]), 2)
                later = part((GETS, unknown(number)), (SENDS, A), (kind, [OWN_KEY] + unknown(number)))
                self.answers(talk(parts=[later]), 3)

    def test_got_within_another_term(self):
        for kind in MARKING_KINDS:
            for term in around(unknown(2)):
                for used in around(unknown(2)):
                    self.answers(talk(parts=[part((GETS, term), (kind, used))]), 2)

    def test_got_in_none(self):
        for kind in MARKING_KINDS:
            for term in [unknown(0), unknown(3)] + around(unknown(0)):
                self.answers(talk(parts=[part((kind, term))]), -3)
                self.answers(talk(parts=[part((GETS, A), (kind, term))]), -3)

    def test_got_only_in_a_later_one(self):
        for kind in MARKING_KINDS:
            self.answers(talk(parts=[part((kind, unknown(1)), (GETS, unknown(1)))]), -3)

    def test_got_only_in_another_part(self):
        gets = part((GETS, unknown(1)))
        for kind in MARKING_KINDS:
            uses = part((kind, unknown(1)))
            self.answers(talk(parts=[gets, uses]), -3)
            self.answers(talk(parts=[uses, gets]), -3)

    def test_another_unknown_was_got(self):
        for kind in MARKING_KINDS:
            self.answers(talk(parts=[part((GETS, unknown(0)), (kind, unknown(1)))]), -3)
            both = [PAIR] + unknown(0) + unknown(1)
            self.answers(talk(parts=[part((GETS, unknown(0)), (kind, both))]), -3)
            self.answers(talk(parts=[part((GETS, unknown(1)), (kind, both))]), -3)
            self.answers(talk(parts=[part((GETS, unknown(0)), (GETS, unknown(1)), (kind, both))]), 3)
            self.answers(talk(parts=[part((GETS, both), (kind, unknown(1)))]), 2)

    def test_a_name_of_the_same_number_was_got(self):
        for kind in MARKING_KINDS:
            self.answers(talk(parts=[part((GETS, [0, 1]), (kind, unknown(1)))]), -3)
            self.answers(talk(parts=[part((GETS, [PAIR, 0, 7, 0, 1]), (kind, unknown(1)))]), -3)

    def test_an_event_that_gets_needs_no_earlier_one(self):
        self.answers(talk(parts=[part(*[(GETS, unknown(number)) for number in range(4)])] * 4), 16)
        self.answers(talk(parts=[part((GETS, unknown(0)), (GETS, unknown(0)))]), 2)


class Depth(CheckCase):
    def few_calls(self, numbers, answer):
        self.assertEqual(with_few_calls(check, numbers), [answer])

    def test_sorts_of_one(self):
        for sort in SORTS_OF_ONE:
            for told, answer in (
                (talk(known=[[sort] * 506 + A]), 0),
                (talk(parts=[part((SENDS, [sort] * 505 + A))]), 1),
                (talk(parts=[part((GETS, [sort] * 505 + unknown(3)))]), 1),
                (talk(secrets=[[sort] * 506 + A]), 0),
            ):
                self.assertEqual(len(told), 512)
                self.few_calls(told, answer)

    def test_sorts_of_two(self):
        for sort in SORTS_OF_TWO:
            for term in ([sort] * 168 + A * 169, ([sort] + A) * 168 + A):
                for told, answer in zip(in_each_place([PRINT] + term), (0, 1, 0)):
                    self.assertLessEqual(len(told), 512)
                    self.assertGreaterEqual(len(told), 511)
                    self.few_calls(told, answer)

    def test_an_unknown_at_the_very_bottom(self):
        deep = [OWN_KEY] * 500 + unknown(1)
        self.few_calls(talk(known=[deep]), -3)
        self.few_calls(talk(secrets=[deep]), -3)
        for kind in MARKING_KINDS:
            self.few_calls(talk(parts=[part((kind, deep))]), -3)
            self.few_calls(talk(parts=[part((GETS, unknown(1)), (kind, deep))]), 2)
            self.few_calls(talk(parts=[part((GETS, deep), (kind, unknown(1)))]), 2)

    def test_a_deep_term_that_is_none(self):
        for sort in SORTS_OF_ONE + SORTS_OF_TWO:
            self.few_calls([1] + [sort] * 511, -3)
        self.few_calls(talk(known=[[PRINT] * 506 + [0, 16]]), -3)
        self.few_calls(talk(known=[[PRINT] * 507 + [8]]), -3)


class HandedIn(CheckCase):
    def several(self):
        return [
            (talk([A], [part((GETS, unknown(0)), (SENDS, unknown(0)))], [B]), 2),
            (talk(parts=[part((SENDS, unknown(0)))]), -3),
            (talk(parts=[part((SENDS, A))]), 1),
            ([], -3),
            ([0] * 513, -2),
        ]

    def test_the_list_is_as_it_was(self):
        for numbers, answer in self.several():
            handed_in = FixedList(numbers)
            self.assertEqual(check(handed_in), [answer])
            self.assertEqual(list(handed_in), numbers)

    def test_a_second_call_answers_as_the_first_did(self):
        for numbers, answer in self.several() + self.several()[::-1]:
            self.assertEqual(check(numbers), [answer])
            self.assertEqual(check(numbers), [answer])

    def test_a_changed_answer_changes_no_later_one(self):
        for numbers, answer in self.several():
            check(numbers).append(99)
            self.assertEqual(check(numbers), [answer])

    def test_nothing_is_printed(self):
        for numbers, answer in self.several():
            out, err = io.StringIO(), io.StringIO()
            with contextlib.redirect_stdout(out), contextlib.redirect_stderr(err):
                check(numbers)
            self.assertEqual(out.getvalue() + err.getvalue(), "")

    def test_the_talk_is_handed_in_by_its_name(self):
        self.assertEqual(list(inspect.signature(check).parameters), ["talk"])
        self.assertEqual(check(talk=talk()), [0])


if __name__ == "__main__":
    unittest.main()
