"""Promise 3: follow, and with it how a way is told and when a step can be done."""

import contextlib
import inspect
import io
import random
import unittest

from talkwatch.desk import follow, way
from tests.helper import (
    BEGINS, ENDS, GETS, LOCKED, LOCKED_FOR, OWN_KEY, PAIR, PRINT, SEALED, SENDS, Chance, FixedList, SlowTalk, locked,
    locked_for, name, own_key, part, print_of, sealed, steps, talk, together, unknown, with_few_calls,
)

A, B, C, D, E = [name(number) for number in range(5)]
X, Y, Z, W = [unknown(number) for number in range(4)]

NO_PART = (0, 255, 255, 255, 255)


class FollowCase(unittest.TestCase):
    def answers(self, told, way_told, answer):
        got = follow(list(told), list(way_told))
        self.assertEqual(got, answer, (told, way_told))
        self.assertIs(type(got), list)
        self.assertEqual({type(number) for number in got}, {int})

    def leads_to(self, told, rows, *parts):
        """Each part: how many events it has done, then its unknowns' names; 255 for those that aren't given."""
        answer = [0]
        for number in range(4):
            found = tuple(parts[number]) if number < len(parts) else (0,)
            answer.extend(found + NO_PART[len(found):])
        self.assertEqual(len(answer), 21)
        self.answers(told, steps(*rows), answer)

    def no_way(self, told, *rows):
        self.answers(told, steps(*rows), [-5])

    def bytes_are_no_way(self, told, *all_bytes):
        for numbers in all_bytes:
            self.answers(told, numbers, [-5])


class OrdinaryWays(FollowCase):
    def test_one_part(self):
        told = talk([A], [part((GETS, X), (SENDS, locked(B, X)), (BEGINS, X), (ENDS, B))])
        self.leads_to(told, [], (0,))
        self.leads_to(told, [(0, 0)], (1, 0))
        self.leads_to(told, [(0, 0), (0,)], (2, 0))
        self.leads_to(told, [(0, 0), (0,), (0,)], (3, 0))
        self.leads_to(told, [(0, 0), (0,), (0,), (0,)], (4, 0))

    def test_two_parts(self):
        told = talk([], [part((GETS, locked(X, B)), (SENDS, X)), part((SENDS, locked(C, B)), (GETS, Y))])
        self.leads_to(told, [(1,)], (0,), (1,))
        self.leads_to(told, [(1,), (0, 2)], (1, 2), (1,))
        self.leads_to(told, [(1,), (0, 2), (0,), (1, 2)], (2, 2), (2, 255, 2))

    def test_three_and_four_parts(self):
        gets = part((GETS, together(X, W)), (GETS, Z))
        told = talk([A, B, C], [gets, part(), gets])
        self.leads_to(told, [(2, 1, 2), (0, 0, 1), (2, 2)], (1, 0, 255, 255, 1), (0,), (2, 1, 255, 2, 2))
        told = talk([A, B, C], [gets] * 4)
        rows = [(3, 0, 0), (2, 0, 1), (1, 1, 0), (0, 1, 1), (0, 2), (3, 1)]
        self.leads_to(told, rows, (2, 1, 255, 2, 1), (1, 1, 255, 255, 0), (1, 0, 255, 255, 1), (2, 0, 255, 1, 0))

    def test_no_bytes(self):
        for many in (1, 2, 3, 4):
            self.leads_to(talk([A], [part((GETS, X))] * many), [])
            self.leads_to(talk([], [part()] * many), [])

    def test_any_order_will_do(self):
        told = talk([A], [part((SENDS, A), (SENDS, B)), part((SENDS, C))])
        for rows in ([(0,), (0,), (1,)], [(0,), (1,), (0,)], [(1,), (0,), (0,)]):
            self.leads_to(told, rows, (2,), (1,))

    def test_a_way_needn_t_be_the_first(self):
        told = talk([A, B, name(15)], [part((GETS, X), (SENDS, locked(C, X)))], [C])
        for number in (0, 1, 15):
            self.leads_to(told, [(0, number), (0,)], (2, number))
        self.no_way(told, (0, 2), (0,))

    def test_what_way_answers(self):
        first = part((GETS, X), (BEGINS, X), (SENDS, locked_for(together(D, A), X)))
        second = part((GETS, locked_for(together(X, A), B)), (SENDS, locked_for(X, A)), (ENDS, B))
        told = talk([A, B, C, own_key(C)], [first, second], [D])
        for what, parts in ((0, [(3, 2)]), (1, [(0,), (3, 0)]), (2, [(3, 0), (3, 0)])):
            found = way(what, 144, told)
            answer = [0]
            for number in range(4):
                reached = parts[number] if number < len(parts) else (0,)
                answer.extend(reached + NO_PART[len(reached):])
            self.answers(told, found[1:], answer)


class Bounds(FollowCase):
    def setUp(self):
        self.told = talk([A], [part((SENDS, A), (SENDS, B))])

    def test_144_bytes(self):
        self.answers(self.told, [0] * 143, [-5])
        self.answers(self.told, [0] * 144, [-5])
        self.answers(self.told, [255] * 144, [-5])

    def test_more_than_144_bytes(self):
        for length in (145, 146, 199, 200):
            self.answers(self.told, [0] * length, [-2])
            self.answers(self.told, [255] * length, [-2])
            self.answers(self.told, (steps((0,), (0,)) + [0] * 200)[:length], [-2])

    def test_the_longest_way(self):
        parts = [part((GETS, together(X, Y, Z, W)), *[(SENDS, X)] * 5)] * 4
        rows = [(number, 0, 0, 0, 0) if place == 0 else (number,) for place in range(6) for number in range(4)]
        self.assertEqual(len(steps(*rows)), 64)
        self.leads_to(talk([A], parts), rows, *[(6, 0, 0, 0, 0)] * 4)

    def test_a_talk_that_is_refused(self):
        long_talk = talk(parts=[part((SENDS, [PRINT] * 506 + A))])
        self.assertEqual(len(long_talk), 513)
        for way_told in ([], [0, 0], [9], [0] * 144, [0] * 145, [255] * 200):
            self.answers(long_talk, way_told, [-2])
            self.answers([0] * 600, way_told, [-2])
            for no_talk in ([], [0, 0, 0], self.told + [0], self.told[:-1], talk(parts=[part((SENDS, X))])):
                self.answers(no_talk, way_told, [-3])


class BytesThatTellNone(FollowCase):
    def setUp(self):
        gets = part((GETS, together(X, Y)), (SENDS, X), (BEGINS, Y), (ENDS, A))
        self.told = talk([A, B, name(15)], [gets, part((SENDS, B))])
        self.rows = [(0, 0, 1), (1,), (0,), (0,), (0,)]
        self.leads_to(self.told, self.rows, (4, 0, 1), (1,))

    def test_they_end_too_soon(self):
        told = steps(*self.rows)
        ends = {len(steps(*self.rows[:many])) for many in range(len(self.rows) + 1)}
        for length in range(len(told)):
            if length not in ends:
                self.bytes_are_no_way(self.told, told[:length])
        self.bytes_are_no_way(self.told, [0], [1], [0, 2], [0, 2, 0], [1, 0, 0], [1, 0, 0, 2, 0])

    def test_bytes_left_over(self):
        told = steps(*self.rows)
        for number in range(256):
            self.bytes_are_no_way(self.told, told + [number], told + [number, 0], told + [0, number])
        self.bytes_are_no_way(self.told, told + told)

    def test_a_part_that_there_isn_t(self):
        for number in (2, 3, 4, 5, 16, 255):
            self.bytes_are_no_way(self.told, [number], [number, 0], [1, 0, number, 0], [number, 2, 0, 0])
        for many in (1, 2, 3, 4):
            told = talk([], [part((SENDS, A))] * many)
            for number in range(many):
                self.assertEqual(follow(told, [number, 0])[0], 0)
            for number in (many, many + 1, 255):
                self.bytes_are_no_way(told, [number, 0])

    def test_a_part_whose_events_are_all_done(self):
        self.bytes_are_no_way(self.told, steps((1,), (1,)), steps(*self.rows, (0,)), steps(*self.rows, (1,)))
        self.bytes_are_no_way(talk([], [part(), part((SENDS, A))]), [0, 0], [1, 0, 0, 0])

    def test_too_few_or_too_many_names(self):
        self.no_way(self.told, (0,))
        self.no_way(self.told, (0, 0))
        self.no_way(self.told, (0, 0, 1, 0))
        self.no_way(self.told, (0, 0, 1, 0, 0))
        told = talk([A], [part((GETS, A), (GETS, X), (GETS, X))])
        self.leads_to(told, [(0,), (0, 0), (0,)], (3, 0))
        self.no_way(told, (0, 0))
        self.no_way(told, (0,), (0,))
        self.no_way(told, (0,), (0, 0), (0, 0))

    def test_names_where_nothing_is_got(self):
        for kind in (SENDS, BEGINS, ENDS):
            told = talk([A], [part((kind, A)), part((GETS, X), (kind, X))])
            self.leads_to(told, [(0,), (1, 0), (1,)], (1,), (2, 0))
            self.no_way(told, (0, 0))
            self.no_way(told, (1, 0), (1, 0))

    def test_a_name_that_is_none(self):
        for number in (16, 17, 32, 255):
            self.no_way(self.told, (0, number, 1))
            self.no_way(self.told, (0, 0, number))
        self.leads_to(self.told, [(0, 15, 15)], (1, 15, 15))

    def test_a_count_greater_than_the_bytes_behind_it(self):
        for number in (2, 3, 4, 16, 143, 255):
            self.bytes_are_no_way(self.told, [0, number], [0, number, 0], [1, number], [0, number] + [0] * 142)


class WhenAStepCanBeDone(FollowCase):
    def test_what_can_t_be_known(self):
        told = talk([A], [part((GETS, B)), part((GETS, X))])
        self.no_way(told, (0,))
        self.no_way(told, (1, 1))
        self.leads_to(told, [(1, 0)], (0,), (1, 0))

    def test_what_can_be_known_only_behind_a_later_step(self):
        told = talk([], [part((GETS, print_of(X))), part((SENDS, D), (SENDS, print_of(E)))])
        self.no_way(told, (0, 3))
        self.no_way(told, (0, 3), (1,))
        self.leads_to(told, [(1,), (0, 3)], (1, 3), (1,))
        self.no_way(told, (1,), (0, 4))
        self.no_way(told, (1,), (0, 4), (1,))
        self.leads_to(told, [(1,), (1,), (0, 4)], (1, 4), (2,))

    def test_a_part_doesn_t_get_what_it_sends_later(self):
        told = talk([], [part((GETS, X), (SENDS, X)), part((GETS, A), (SENDS, A))])
        self.no_way(told, (0, 0))
        self.no_way(told, (1,))
        self.leads_to(told, [])

    def test_neither_marks_nor_what_is_got_can_be_known(self):
        told = talk([locked(A, B)], [part((BEGINS, D), (ENDS, E), (GETS, locked(X, B)), (GETS, Y))])
        self.leads_to(told, [(0,), (0,), (0, 0)], (3, 0))
        for number in range(16):
            self.no_way(told, (0,), (0,), (0, 0), (0, number))

    def test_each_rule(self):
        for known, term in (
            ([A, B], together(A, B)), ([together(A, B)], B), ([A, B], locked(A, B)), ([locked(A, B), B], A),
            ([A, B], locked_for(A, B)), ([locked_for(A, B), own_key(B)], A), ([A, B, own_key(B)], sealed(A, B)),
            ([sealed(A, B)], A), ([A], print_of(A)), ([own_key(A)], own_key(A)),
        ):
            told = talk([], [part(*[(SENDS, sent) for sent in known], (GETS, term))])
            rows = [(0,)] * (len(known) + 1)
            self.leads_to(told, rows, (len(rows),))
            for lacking in range(len(known)):
                fewer = known[:lacking] + known[lacking + 1:]
                told = talk([], [part(*[(SENDS, sent) for sent in fewer], (GETS, term))])
                self.no_way(told, *rows[1:])
        for known, term in (([print_of(A)], A), ([A], own_key(A)), ([locked(A, B), A], B), ([sealed(A, B)], B),
                            ([locked_for(A, B), B], A)):
            self.no_way(talk(known, [part((GETS, term))]), (0,))

    def test_several_turns(self):
        known = [locked(B, A), locked(C, print_of(B)), locked_for(D, C), locked(own_key(C), together(C, B))]
        told = talk(known[::-1], [part((SENDS, A)), part((GETS, D))])
        self.no_way(told, (1,))
        self.leads_to(told, [(0,), (1,)], (1,), (1,))


class Unknowns(FollowCase):
    def test_rising_by_unknown_and_not_by_place(self):
        told = talk([locked(together(D, B, C), E)], [part((GETS, locked(together(W, X, Z), E)))])
        self.leads_to(told, [(0, 1, 2, 3)], (1, 1, 255, 2, 3))
        for names in ((3, 1, 2), (1, 3, 2), (2, 1, 3), (3, 2, 1), (2, 3, 1)):
            self.no_way(told, (0,) + names)

    def test_one_that_stands_for_a_name_already(self):
        told = talk([A, B, C], [part((GETS, Y), (GETS, together(Y, X)), (GETS, locked(X, Y)))])
        self.leads_to(told, [(0, 1), (0, 2), (0,)], (3, 2, 1))
        self.no_way(told, (0, 1), (0, 2, 1))
        told = talk([A, B, print_of(own_key(B))], [part((GETS, X), (GETS, print_of(own_key(X))))])
        self.leads_to(told, [(0, 1), (0,)], (2, 1))
        self.no_way(told, (0, 0), (0,))

    def test_twice_in_one_term(self):
        told = talk([locked(together(A, B), E), locked(together(C, C), E)], [part((GETS, locked(together(X, X), E)))])
        self.leads_to(told, [(0, 2)], (1, 2))
        self.no_way(told, (0, 0))
        self.no_way(told, (0, 1))
        self.no_way(told, (0, 2, 2))

    def test_the_same_in_two_parts(self):
        gets = part((GETS, X), (SENDS, locked(X, E)))
        told = talk([A, B], [gets, gets, part((GETS, locked(X, E)))])
        self.leads_to(told, [(0, 0), (1, 1), (0,)], (2, 0), (1, 1))
        self.leads_to(told, [(0, 0), (1, 1), (0,), (2, 0)], (2, 0), (1, 1), (1, 0))
        self.no_way(told, (0, 0), (1, 1), (0,), (2, 1))
        self.leads_to(told, [(0, 0), (1, 1), (0,), (1,), (2, 1)], (2, 0), (2, 1), (1, 1))

    def test_of_an_event_that_isn_t_done(self):
        told = talk([A, B], [part((GETS, Z), (GETS, together(W, X)), (GETS, Y))] * 2)
        self.leads_to(told, [])
        self.leads_to(told, [(1, 1)], (0,), (1, 255, 255, 1))
        self.leads_to(told, [(1, 1), (1, 0, 1)], (0,), (2, 0, 255, 1, 1))
        self.leads_to(told, [(1, 1), (1, 0, 1), (1, 1)], (0,), (3, 0, 1, 1, 1))

    def test_names_0_and_15(self):
        told = talk([name(0), name(15)], [part((GETS, together(X, W)))])
        for first in (0, 15):
            for second in (0, 15):
                self.leads_to(told, [(0, first, second)], (1, first, 255, 255, second))


class Deep(FollowCase):
    def few_calls(self, told, rows, done, unknown_name):
        self.assertLessEqual(len(told), 512)
        answer = [0, done, unknown_name, 255, 255, 255] + list(NO_PART) * 3
        self.assertEqual(with_few_calls(follow, told, steps(*rows)), answer)

    def test_put_together(self):
        for deep in ([PRINT] * 500, [PAIR] * 160 + B * 160, ([LOCKED] + B) * 160, [LOCKED_FOR] * 160 + B * 160):
            self.few_calls(talk([A, B], [part((GETS, deep + X))]), [(0, 0)], 1, 0)
        told = talk([A, B, own_key(A)], [part((GETS, ([SEALED] + B) * 160 + X))])
        self.assertEqual(with_few_calls(follow, told, steps((0, 0))), [-5])

    def test_taken_apart(self):
        for deep in ([PAIR] * 150 + C + B * 150, [LOCKED] * 150 + C + B * 150, [LOCKED_FOR] * 150 + C + B * 150,
                     [SEALED] * 150 + C + B * 150):
            told = talk([B, own_key(B)], [part((SENDS, deep), (GETS, X))])
            self.few_calls(told, [(0,), (0, 2)], 2, 2)
            self.assertEqual(with_few_calls(follow, told, steps((0, 2))), [-5])

    def test_as_it_is(self):
        told = talk([], [part((SENDS, [OWN_KEY] * 240 + C), (GETS, [OWN_KEY] * 240 + X))])
        self.few_calls(told, [(0,), (0, 2)], 2, 2)
        told = talk([], [part((SENDS, [OWN_KEY] * 240 + C), (GETS, [OWN_KEY] * 239 + X))])
        self.assertEqual(with_few_calls(follow, told, steps((0,), (0, 2))), [-5])


class HandedIn(FollowCase):
    def several(self):
        told = talk([A], [part((GETS, X), (SENDS, locked(B, X)))], [B])
        return [
            ((told, []), [0] + list(NO_PART) * 4),
            ((told, [0, 1, 0, 0, 0]), [0, 2, 0, 255, 255, 255] + list(NO_PART) * 3),
            ((told, [0, 1, 1]), [-5]),
            ((told, [0] * 145), [-2]),
            (([], [0] * 145), [-3]),
            (([0] * 513, []), [-2]),
        ]

    def test_the_lists_are_as_they_were(self):
        for (told, way_told), answer in self.several():
            handed_in = FixedList(told), FixedList(way_told)
            self.assertEqual(follow(*handed_in), answer)
            self.assertEqual((list(handed_in[0]), list(handed_in[1])), (told, way_told))

    def test_a_second_call_answers_as_the_first_did(self):
        for given, answer in self.several() + self.several()[::-1]:
            self.assertEqual(follow(*given), answer)
            self.assertEqual(follow(*given), answer)

    def test_a_changed_answer_changes_no_later_one(self):
        for given, answer in self.several():
            follow(*given).append(99)
            self.assertEqual(follow(*given), answer)

    def test_nothing_is_printed(self):
        for given, answer in self.several():
            out, err = io.StringIO(), io.StringIO()
            with contextlib.redirect_stdout(out), contextlib.redirect_stderr(err):
                follow(*given)
            self.assertEqual(out.getvalue() + err.getvalue(), "")

    def test_all_is_handed_in_by_its_name(self):
        self.assertEqual(list(inspect.signature(follow).parameters), ["talk", "steps"])
        self.assertEqual(follow(talk=talk(), steps=[]), [0] + list(NO_PART) * 4)


class ByChance(FollowCase):
    def test_what_way_answers_is_followed_to_where_it_leads(self):
        ways = 0
        for seed in range(300):
            told = Chance(random.Random(seed)).talk()
            for what in (0, 1, 2):
                found = way(what, 144, told)
                if found[0] > 0:
                    slow = SlowTalk(told)
                    state = slow.follow(found[1:])
                    self.assertTrue(slow.holds(what, state))
                    self.answers(told, found[1:], slow.numbers(state))
                    ways += 1
        self.assertGreater(ways, 200)

    def test_as_the_slow_and_plain_reading_says(self):
        refused = 0
        for seed in range(800):
            chance = random.Random(seed)
            told = Chance(chance).talk()
            slow = SlowTalk(told)
            way_told = self.changed(chance, slow.some_way(chance))
            state = slow.follow(way_told)
            refused += state is None
            self.answers(told, way_told, [-5] if state is None else slow.numbers(state))
        self.assertGreater(refused, 150)
        self.assertLess(refused, 500)

    def changed(self, chance, told):
        if not told or chance.random() < 0.4:
            return told
        place = chance.randrange(len(told))
        return chance.choice((
            told[:place], told[:place] + [chance.choice((0, 1, 2, 3, 15, 16, 255))] + told[place + 1:],
            told[:place] + [chance.randrange(3)] + told[place:], told + told[place:],
        ))


if __name__ == "__main__":
    unittest.main()
