"""[0.1] to [0.3] and [3.1] to [3.3]: what a hand takes, refuses, lets wait and gives."""

import copy
import itertools
import random
import unittest

from manyhands.errors import HandsError, NoDeed, NoTime, Unlike
from manyhands.hands import Hand, accept, give, outline_of, take
from manyhands.names import in_order
from manyhands.playing import played
from samples import MOST, OPERATIONS, changed
from sessions import mixed, session
from views import picture, state

PUT = ("put", "root", None)
OTHER = ("put", "bin", None)
NONE = [0] * 16

NO_OPERATIONS = [
    None, True, False, 0, -1, MOST, "", "put", "0 1 1 put root -", [], (), [1, 1, 1, PUT], (1, 1, 1), (1, 1, 1, PUT, 1),
    (16, 1, 1, PUT), (-1, 1, 1, PUT), (1, 0, 1, PUT), (1, 1, 0, PUT), (True, 1, 1, PUT), (1, True, 1, PUT),
    (1, 1, True, PUT), (1, 1, 1, list(PUT)), (1, 1, 1, ("put",)), (1, 1, 1, ("put", "root", "root")), (1, 1, 1, None),
    (1, 1, 1, ("write", (0, 1), None, "")), (1, 1, 1, ("write", (0, 1), None, "a" * 17)),
    (1, 1, 1, ("cut", (0, 1), (0, 1, 1), 16)), (1, 1, 1, ("set", (0, 1), 4, 0)), (1, 1, 1, ("undo", None)),
    (1, 1, 10 ** 60, PUT), ((1, 1), 1, PUT), [(1, 1, 1, PUT)], ((1, 1, 1, PUT),),
]


def op(hand, number, time=None, deed=PUT):
    return (hand, number, number if time is None else time, deed)


class Taking(unittest.TestCase):
    def assert_refused(self, hand, message, refusal):
        """The message is refused with just that, and changes nothing."""
        before = state(hand)
        sent = copy.deepcopy(message)
        with self.subTest(message=message):
            with self.assertRaises(refusal):
                take(hand, message)
            self.assertEqual(state(hand), before)
            self.assertEqual(message, sent)

    def haves(self, hand):
        return {other: hand.have(other) for other in range(16) if hand.have(other) > 0}

    def hand_with(self, *operations):
        hand = Hand(0)
        take(hand, list(operations))
        return hand


class NewHand(Taking):
    def test_it_has_taken_nothing(self):
        for ours in range(16):
            hand = Hand(ours)
            self.assertEqual([hand.have(other) for other in range(16)], NONE)
            self.assertEqual(give(hand, NONE), [])
            self.assertEqual(picture(outline_of(hand)), {"root": [], "bin": []})

    def test_hands_share_nothing(self):
        one, other = Hand(0), Hand(0)
        take(one, [op(1, 1), op(1, 3)])
        self.assertEqual(state(other), state(Hand(0)))

    def test_numbers_somewhat_beyond_the_hands_are_not_refused(self):
        hand = Hand(16)
        self.assertEqual(take(hand, [op(15, 1), op(0, 1)]), 2)
        self.assertEqual([hand.have(other) for other in [-1, 0, 15, 16, 17]], [0, 1, 1, 0, 0])


class Taken(Taking):
    def test_the_next_ones_are_taken(self):
        hand = Hand(0)
        self.assertEqual(take(hand, [op(1, 1)]), 1)
        self.assertEqual(take(hand, [op(1, 2), op(1, 3), op(2, 1)]), 3)
        self.assertEqual(self.haves(hand), {1: 3, 2: 1})
        self.assertEqual(picture(outline_of(hand))["root"], [(1, 3), (1, 2), (2, 1), (1, 1)])

    def test_an_empty_message(self):
        hand = self.hand_with(op(1, 1), op(1, 3))
        before = state(hand)
        self.assertEqual(take(hand, []), 0)
        self.assertEqual(state(hand), before)

    def test_of_every_hand_but_the_own(self):
        hand = Hand(7)
        self.assertEqual(take(hand, [op(other, 1) for other in range(16) if other != 7]), 15)
        self.assertEqual([hand.have(other) for other in range(16)], [1] * 7 + [0] + [1] * 8)

    def test_every_kind_of_operation(self):
        hand = Hand(0)
        message = [(1, k, k, operation[3]) for k, operation in enumerate(OPERATIONS, start=1)]
        self.assertEqual(take(hand, message), len(OPERATIONS))
        self.assertEqual(give(hand, NONE), message)

    def test_what_was_taken_is_passed_over(self):
        hand = self.hand_with(op(1, 1), op(1, 2))
        before = state(hand)
        for message in [[op(1, 1)], [op(1, 2)], [op(1, 2), op(1, 1), op(1, 1)]]:
            self.assertEqual(take(hand, message), 0)
            self.assertEqual(state(hand), before)

    def test_twice_in_one_message(self):
        hand = Hand(0)
        self.assertEqual(take(hand, [op(1, 1), op(1, 1), op(1, 2), op(1, 1), op(1, 2)]), 2)
        self.assertEqual(self.haves(hand), {1: 2})

    def test_old_and_new_in_one_message(self):
        hand = self.hand_with(op(1, 1))
        self.assertEqual(take(hand, [op(1, 1), op(1, 2), op(2, 1)]), 2)

    def test_more_than_400_of_a_hand_are_not_refused(self):
        hand = Hand(0)
        self.assertEqual(take(hand, [op(1, number) for number in range(1, 411)]), 410)
        self.assertEqual(hand.have(1), 410)

    def test_all_that_sixteen_hands_may_have(self):
        operations = [op(other, number, 7 * number) for other in range(1, 16) for number in range(1, 401)]
        hand = Hand(0)
        self.assertEqual(take(hand, operations), 6000)
        self.assertEqual(give(hand, NONE), in_order(operations))
        self.assertEqual(len(outline_of(hand).children_of("root")), 6000)

    def test_what_is_shown_follows_each_taking(self):
        hand = self.hand_with(op(1, 1))
        self.assertEqual(outline_of(hand).text_of((1, 1)), "")
        take(hand, [op(1, 2, 5, ("write", (1, 1), None, "ab"))])
        self.assertEqual(outline_of(hand).text_of((1, 1)), "ab")
        take(hand, [op(2, 1, 3, ("write", (1, 1), None, "cd"))])
        self.assertEqual(outline_of(hand).text_of((1, 1)), "abcd")
        take(hand, [op(3, 1, 1, ("undo", (1, 2)))])
        self.assertEqual(outline_of(hand).text_of((1, 1)), "cd")


class Waits(Taking):
    def test_what_is_not_next_waits_and_is_not_shown(self):
        hand = Hand(0)
        self.assertEqual(take(hand, [op(1, 2)]), 0)
        self.assertEqual(self.haves(hand), {})
        self.assertEqual(give(hand, NONE), [])
        self.assertEqual(picture(outline_of(hand)), {"root": [], "bin": []})

    def test_an_undo_that_waits_undoes_nothing(self):
        hand = self.hand_with(op(1, 1), op(2, 2, 5, ("undo", (1, 1))))
        self.assertTrue(outline_of(hand).has((1, 1)))
        take(hand, [op(2, 1)])
        self.assertFalse(outline_of(hand).has((1, 1)))

    def test_those_that_have_become_next_are_taken_too(self):
        hand = self.hand_with(op(1, 2), op(1, 4), op(1, 3), op(1, 6), op(2, 2))
        self.assertEqual(take(hand, [op(1, 1)]), 4)
        self.assertEqual(self.haves(hand), {1: 4})
        self.assertEqual(take(hand, [op(1, 5)]), 2)
        self.assertEqual(take(hand, [op(2, 1)]), 2)
        self.assertEqual(self.haves(hand), {1: 6, 2: 2})
        self.assertEqual(hand.waiting, [])

    def test_in_one_message_backwards(self):
        hand = Hand(0)
        self.assertEqual(take(hand, [op(1, number) for number in range(9, 0, -1)]), 9)
        self.assertEqual(self.haves(hand), {1: 9})

    def test_backwards_one_too_many(self):
        # 10 to 3 wait, so 2 is passed over; 1 is taken, and nothing has become next.
        hand = Hand(0)
        self.assertEqual(take(hand, [op(1, number) for number in range(10, 0, -1)]), 1)
        self.assertEqual(self.haves(hand), {1: 1})
        self.assertEqual(take(hand, [op(1, 2)]), 9)

    def test_an_eighth_waits_a_ninth_is_passed_over(self):
        eight = [op(1 + k, 2) for k in range(8)]
        hand = self.hand_with(*eight, op(9, 2))
        self.assertEqual(take(hand, [op(8, 1)]), 2)
        hand = self.hand_with(*eight, op(9, 2))
        self.assertEqual(take(hand, [op(9, 1)]), 1)
        self.assertEqual(self.haves(hand), {9: 1})
        self.assertEqual(take(hand, [op(9, 2)]), 1)

    def test_a_ninth_in_a_message_of_its_own(self):
        hand = self.hand_with(*[op(1, 2 + k) for k in range(8)])
        before = state(hand)
        self.assertEqual(take(hand, [op(1, 10)]), 0)
        self.assertEqual(state(hand), before)
        self.assertEqual(take(hand, [op(1, 1), op(1, 10)]), 10)

    def test_when_one_waits_no_more_another_may(self):
        hand = self.hand_with(*[op(1 + k, 2) for k in range(8)])
        self.assertEqual(take(hand, [op(9, 2), op(1, 1), op(10, 2), op(11, 2)]), 2)
        self.assertEqual(take(hand, [op(9, 1), op(10, 1), op(11, 1)]), 4)
        self.assertEqual(self.haves(hand), {1: 2, 9: 1, 10: 2, 11: 1})

    def test_what_waits_already_does_not_wait_twice(self):
        hand = self.hand_with(op(1, 2), op(1, 2), op(1, 2))
        self.assertEqual(take(hand, [op(1, 2)]), 0)
        self.assertEqual(hand.waiting, [op(1, 2)])
        self.assertEqual(take(hand, [op(2 + k, 2) for k in range(7)]), 0)
        self.assertEqual(take(hand, [op(8, 1)]), 2)

    def test_they_wait_in_the_order_in_which_they_came(self):
        hand = self.hand_with(op(3, 5), op(1, 9), op(1, 3), op(2, 2))
        self.assertEqual(hand.waiting, [op(3, 5), op(1, 9), op(1, 3), op(2, 2)])
        take(hand, [op(1, 1), op(1, 2), op(3, 4)])
        self.assertEqual(hand.waiting, [op(3, 5), op(1, 9), op(2, 2), op(3, 4)])

    def test_very_great_numbers_wait(self):
        hand = Hand(0)
        self.assertEqual(take(hand, [op(1, MOST, MOST), op(1, 1)]), 1)
        self.assertEqual(hand.waiting, [op(1, MOST, MOST)])

    def test_what_was_passed_over_is_forgotten(self):
        hand = self.hand_with(*[op(1 + k, 2) for k in range(8)], op(9, 2, 5))
        self.assertEqual(take(hand, [op(9, 1, 7), op(9, 2, 8, OTHER)]), 2)


class RefusedNoDeed(Taking):
    def test_things_that_are_no_operation(self):
        hand = self.hand_with(op(1, 1), op(1, 3), op(2, 1))
        for thing in NO_OPERATIONS:
            self.assert_refused(hand, [thing], NoDeed)
            self.assert_refused(hand, [op(1, 2), thing], NoDeed)
            self.assert_refused(hand, [thing, op(1, 2)], NoDeed)
            self.assert_refused(Hand(0), [thing], NoDeed)

    def test_operations_with_one_part_wrong(self):
        hand = Hand(0)
        for operation in OPERATIONS:
            for wrong in [True, [], "", MOST + 1]:
                for thing in changed(operation, lambda part: wrong):
                    with self.assertRaises(NoDeed):
                        take(hand, [op(1, 1), thing])
        self.assertEqual(state(hand), state(Hand(0)))

    def test_a_very_deep_thing(self):
        deep = ()
        for k in range(5000):
            deep = (deep,)
        for thing in [deep, (0, 1, 1, deep), (1, 1, 1, ("put", deep, None))]:
            hand = Hand(0)
            with self.assertRaises(NoDeed):
                take(hand, [op(1, 1), thing])
            self.assertEqual(state(hand), state(Hand(0)))

    def test_ahead_of_the_other_refusals(self):
        hand = self.hand_with(op(1, 1, 5))
        for wrong in [op(1, 1, 6), op(0, 1), op(1, 2, 5)]:
            self.assert_refused(hand, [wrong, None], NoDeed)
            self.assert_refused(hand, [None, wrong], NoDeed)


class RefusedUnlike(Taking):
    def test_unlike_a_taken_one(self):
        hand = self.hand_with(op(1, 1, 5), op(1, 2, 6), op(1, 3, 7))
        for unlike in [op(1, 1, 4), op(1, 2, 6, OTHER), op(1, 3, 8), op(1, 2, 6, ("put", "root", (1, 1)))]:
            self.assert_refused(hand, [unlike], Unlike)
            self.assert_refused(hand, [op(1, 4, 9), unlike], Unlike)
            self.assert_refused(hand, [unlike, op(1, 4, 9)], Unlike)

    def test_unlike_in_any_part_of_the_deed(self):
        write = op(1, 1, 1, ("write", (2, 1), (3, 1, 4), "ab"))
        for deed in [
            ("write", (2, 2), (3, 1, 4), "ab"), ("write", (2, 1), (3, 1, 5), "ab"), ("write", (2, 1), None, "ab"),
            ("write", (2, 1), (3, 1, 4), "aB"), ("write", (2, 1), (3, 1, 4), "a"), ("drop", (2, 1)),
        ]:
            for hand in [self.hand_with(write), Hand(0)]:
                self.assert_refused(hand, [write, op(1, 1, 1, deed)], Unlike)

    def test_unlike_a_waiting_one(self):
        hand = self.hand_with(op(1, 2, 5))
        self.assert_refused(hand, [op(1, 2, 6)], Unlike)
        self.assert_refused(hand, [op(1, 1), op(1, 2, 5, OTHER)], Unlike)

    def test_unlike_another_one_of_the_message(self):
        for one, other in itertools.permutations([op(1, 1, 5), op(1, 1, 6), op(1, 1, 5, OTHER)], 2):
            self.assert_refused(Hand(0), [one, other], Unlike)
            self.assert_refused(Hand(0), [one, op(2, 1), one, other], Unlike)

    def test_unlike_one_that_would_be_passed_over(self):
        hand = self.hand_with(*[op(1 + k, 2) for k in range(8)])
        self.assert_refused(hand, [op(9, 2, 5), op(9, 2, 6)], Unlike)

    def test_own_ones_that_were_not_taken(self):
        for ours in [0, 7, 15]:
            hand = Hand(ours)
            for number in [1, 2, MOST]:
                self.assert_refused(hand, [op(ours, number, MOST)], Unlike)
                self.assert_refused(hand, [op(3, 1), op(ours, number, MOST)], Unlike)

    def test_own_ones_that_were_taken_are_passed_over(self):
        hand = Hand(4)
        accept(hand, op(4, 1, 3))
        accept(hand, op(4, 2, 5))
        self.assertEqual(take(hand, [op(4, 2, 5), op(4, 1, 3), op(1, 1)]), 1)
        self.assertEqual(self.haves(hand), {1: 1, 4: 2})
        self.assert_refused(hand, [op(4, 1, 4)], Unlike)
        self.assert_refused(hand, [op(4, 2, 5), op(4, 3, 6)], Unlike)

    def test_ahead_of_no_time(self):
        hand = self.hand_with(op(1, 1, 5), op(1, 3, 9))
        for unlike in [op(1, 1, 6), op(0, 1), op(1, 3, 10)]:
            self.assert_refused(hand, [op(1, 2, 5), unlike], Unlike)
            self.assert_refused(hand, [unlike, op(1, 2, 5)], Unlike)
        self.assert_refused(hand, [op(2, 2, 1), op(2, 1, 1), op(2, 1, 2)], Unlike)


class RefusedNoTime(Taking):
    def test_not_above_the_last_taken(self):
        hand = self.hand_with(op(1, 1, 5), op(1, 2, 8))
        for number in [3, 4, 50, MOST]:
            for time in [1, 5, 7, 8]:
                self.assert_refused(hand, [op(1, number, time)], NoTime)
        self.assertEqual(take(hand, [op(1, 3, 9)]), 1)

    def test_within_the_message(self):
        for message in [
            [op(1, 1, 2), op(1, 2, 2)], [op(1, 2, 2), op(1, 1, 2)], [op(1, 1, 3), op(1, 2, 2)],
            [op(1, 1, 1), op(1, 3, 2), op(1, 2, 3)], [op(1, 5, 9), op(2, 1), op(1, 9, 9)],
            [op(2, 1), op(1, 7, 4), op(1, 3, 6)], [op(1, 1), op(1, 2), op(1, 4, 4), op(1, 3, 4)],
        ]:
            self.assert_refused(Hand(0), message, NoTime)

    def test_against_what_waits(self):
        hand = self.hand_with(op(1, 4, 10))
        for number, time in [(1, 10), (2, 11), (3, 10), (5, 10), (5, 9), (400, 1)]:
            self.assert_refused(hand, [op(1, number, time)], NoTime)
        self.assertEqual(take(hand, [op(1, 5, 11), op(1, 1, 7), op(1, 3, 9), op(1, 2, 8)]), 5)

    def test_against_what_waits_and_what_was_taken(self):
        hand = self.hand_with(op(1, 1, 5), op(1, 3, 7))
        for time in [4, 5, 7, 8]:
            self.assert_refused(hand, [op(1, 2, time)], NoTime)
        self.assertEqual(take(hand, [op(1, 2, 6)]), 2)

    def test_a_hole_leaves_as_little_room_as_it_tells(self):
        # No whole number lies between the times, but of the two operations there the lower one is lower.
        self.assertEqual(take(Hand(0), [op(1, 1, 1), op(1, 9, 2)]), 1)

    def test_what_would_be_passed_over_is_looked_at_too(self):
        hand = self.hand_with(*[op(1, 2 + k, 20 + k) for k in range(8)])
        self.assert_refused(hand, [op(1, 10, 27)], NoTime)
        self.assert_refused(hand, [op(1, 11, 40), op(1, 10, 40)], NoTime)
        self.assertEqual(take(hand, [op(1, 10, 28)]), 0)

    def test_the_same_operation_twice_is_no_pair(self):
        self.assertEqual(take(Hand(0), [op(1, 1, 5), op(1, 1, 5), op(1, 2, 6), op(1, 1, 5)]), 2)
        self.assertEqual(take(Hand(0), [op(1, 2, 5), op(1, 2, 5)]), 0)

    def test_times_of_other_hands_say_nothing(self):
        hand = self.hand_with(op(1, 1, 50), op(1, 3, 60))
        self.assertEqual(take(hand, [op(2, 1, 1), op(3, 1, 50), op(2, 2, 50), op(3, 3, 60)]), 3)

    def test_great_times(self):
        hand = self.hand_with(op(1, 1, MOST - 1))
        self.assert_refused(hand, [op(1, 2, MOST), op(1, 3, MOST)], NoTime)
        self.assertEqual(take(hand, [op(1, 2, MOST)]), 1)


class Giving(Taking):
    def setUp(self):
        self.operations = [op(1, 1, 4), op(1, 2, 5), op(2, 1, 4), op(2, 2, 9), op(15, 1, 1), op(3, 1, 4)]
        self.hand = self.hand_with(*self.operations, op(1, 4, 20), op(4, 2, 2))

    def have(self, **numbers):
        """Sixteen numbers, as in have(h1=2)."""
        return [numbers.get(f"h{k}", 0) for k in range(16)]

    def test_all_in_the_order(self):
        self.assertEqual(give(self.hand, NONE), [
            op(15, 1, 1), op(1, 1, 4), op(2, 1, 4), op(3, 1, 4), op(1, 2, 5), op(2, 2, 9),
        ])

    def test_those_above(self):
        self.assertEqual(give(self.hand, self.have(h1=1, h2=1, h15=1)), [op(3, 1, 4), op(1, 2, 5), op(2, 2, 9)])
        self.assertEqual(give(self.hand, self.have(h1=2, h3=1)), [op(15, 1, 1), op(2, 1, 4), op(2, 2, 9)])

    def test_none_for_one_that_has_all_or_more(self):
        self.assertEqual(give(self.hand, [self.hand.have(other) for other in range(16)]), [])
        self.assertEqual(give(self.hand, [self.hand.have(other) + 1 for other in range(16)]), [])
        self.assertEqual(give(self.hand, [400] * 16), [])
        self.assertEqual(give(self.hand, [MOST] * 16), [])

    def test_of_a_new_hand(self):
        self.assertEqual(give(Hand(0), NONE), [])
        self.assertEqual(give(Hand(0), [5] * 16), [])

    def test_numbers_below_nought_are_not_refused(self):
        self.assertEqual(give(self.hand, [-1] * 16), give(self.hand, NONE))

    def test_lists_of_other_lengths_are_not_refused(self):
        self.assertEqual(give(self.hand, [0] * 17), give(self.hand, NONE))
        self.assertEqual(give(self.hand, [0] * 15), give(self.hand, NONE))

    def test_own_ones_are_given_too(self):
        accept(self.hand, op(0, 1, 5))
        self.assertEqual(give(self.hand, self.have(h1=1, h2=1, h3=1, h15=1)), [op(0, 1, 5), op(1, 2, 5), op(2, 2, 9)])

    def test_what_waits_is_not_given(self):
        given = give(self.hand, self.have(h1=2))
        self.assertNotIn(op(1, 4, 20), given)
        self.assertNotIn(op(4, 2, 2), given)

    def test_the_list_is_new_and_nothing_is_changed(self):
        have = self.have(h1=1)
        before = state(self.hand)
        given = give(self.hand, have)
        expected = list(given)
        given.append(None)
        given.reverse()
        self.assertEqual(give(self.hand, have), expected)
        self.assertEqual(have, self.have(h1=1))
        self.assertEqual(state(self.hand), before)

    def test_what_is_given_is_taken(self):
        other = Hand(0)
        self.assertEqual(take(other, give(self.hand, NONE)), 6)
        self.assertEqual(give(other, NONE), give(self.hand, NONE))
        self.assertEqual(take(other, give(self.hand, [0] * 16)), 0)


class Whole(Taking):
    def test_a_message_is_not_changed_or_kept(self):
        message = [op(1, 1), op(1, 3), op(1, 2), op(2, 5)]
        before = copy.deepcopy(message)
        hand = Hand(0)
        take(hand, message)
        self.assertEqual(message, before)
        expected = state(hand)
        message.clear()
        message.append(None)
        self.assertEqual(state(hand), expected)

    def test_refusals_are_hands_errors(self):
        for message in [[None], [op(0, 1)], [op(1, 1), op(1, 2, 1)]]:
            with self.assertRaises(HandsError):
                take(Hand(0), message)

    def test_every_order_of_a_few_shows_the_same(self):
        operations = [
            op(1, 1, 1), op(1, 2, 3, ("write", (1, 1), None, "ab")), op(2, 1, 3, ("write", (1, 1), None, "cd")),
            op(2, 2, 4, ("drop", (1, 1))), op(3, 1, 2, ("undo", (2, 2))), op(3, 2, 5, ("set", (1, 1), 0, 1)),
        ]
        expected = picture(played(operations))
        for message in itertools.permutations(operations):
            hand = Hand(0)
            self.assertEqual(take(hand, list(message)), 6)
            self.assertEqual(picture(outline_of(hand)), expected)

    def test_hands_that_have_taken_the_same_show_the_same(self):
        for seed in range(20):
            operations = session(seed, 5, 14)
            expected = picture(played(operations))
            for other in [9, 12]:
                with self.subTest(seed=seed, other=other):
                    hand = Hand(other)
                    taken = 0
                    # Told again and again, since what was passed over must come once more.
                    for again in range(100):
                        for message in mixed(seed * 1000 + again * 16 + other, operations):
                            taken += take(hand, message)
                        if taken == len(operations):
                            break
                    self.assertEqual(taken, len(operations))
                    self.assertEqual(picture(outline_of(hand)), expected)
                    self.assertEqual(give(hand, NONE), in_order(operations))

    def test_what_is_taken_step_by_step_is_what_the_words_tell(self):
        for seed in range(30):
            chance = random.Random(seed)
            operations = session(seed, 4, 12)
            hand, has, waits = Hand(9), {}, []
            for message in mixed(seed, operations):
                expected = 0
                for one in message:
                    expected += self.plainly(one, has, waits)
                self.assertEqual(take(hand, message), expected)
                self.assertEqual(self.haves(hand), {other: many for other, many in has.items() if many})
                self.assertEqual(hand.waiting, waits)
                asked = [chance.randrange(14) for k in range(16)]
                self.assertEqual(give(hand, asked), in_order([
                    one for one in operations if asked[one[0]] < one[1] <= has.get(one[0], 0)
                ]))

    def plainly(self, one, has, waits):
        """[3.2] for one operation, told over numbers alone."""
        taken = has.get(one[0], 0)
        if one[1] != taken + 1:
            if one[1] > taken and one not in waits and len(waits) < 8:
                waits.append(one)
            return 0
        has[one[0]] = one[1]
        for other in waits:
            if other[:2] == (one[0], one[1] + 1):
                waits.remove(other)
                return 1 + self.plainly(other, has, waits)
        return 1


if __name__ == "__main__":
    unittest.main()
