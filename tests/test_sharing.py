"""[3.4]: what hands lack, tell one another, and have after they met."""

import itertools
import unittest

from manyhands.asking import shown, there
from manyhands.errors import NoTime, Unlike
from manyhands.hands import Hand, give, take
from manyhands.ours import drop, place, put, undo, write
from manyhands.saves import loaded, saved
from manyhands.sharing import lacks, met, told
from views import state

PUT = ("put", "root", None)
NONE = [0] * 16


def with_puts(ours, many):
    """A hand that has put so many items."""
    hand = Hand(ours)
    for k in range(many):
        put(hand, "root", None)
    return hand


def haves(hand):
    return [hand.have(other) for other in range(16)]


class Sharing(unittest.TestCase):
    def assert_same(self, one, other):
        """Both have the same and show the same."""
        self.assertEqual(state(one)[1:3], state(other)[1:3])
        self.assertEqual(shown(one), shown(other))


class Lacks(Sharing):
    def test_new_hands_lack_nothing(self):
        self.assertEqual(lacks(Hand(0), Hand(1)), 0)

    def test_a_hand_lacks_nothing_that_it_has_itself(self):
        hand = with_puts(3, 4)
        self.assertEqual(lacks(hand, hand), 0)

    def test_all_some_and_none(self):
        hand, other = with_puts(2, 5), Hand(9)
        self.assertEqual(lacks(hand, other), 5)
        take(other, give(hand, NONE)[:3])
        self.assertEqual(lacks(hand, other), 2)
        take(other, give(hand, NONE))
        self.assertEqual(lacks(hand, other), 0)

    def test_it_is_what_the_first_has_and_the_second_lacks(self):
        hand, other = with_puts(0, 5), with_puts(1, 2)
        self.assertEqual(lacks(hand, other), 5)
        self.assertEqual(lacks(other, hand), 2)

    def test_of_every_hand(self):
        hand = Hand(0)
        take(hand, [(other, number, number, PUT) for other in range(1, 16) for number in range(1, other + 1)])
        put(hand, "root", None)
        self.assertEqual(lacks(hand, Hand(1)), 1 + sum(range(1, 16)))
        self.assertEqual(lacks(hand, with_puts(15, 2)), 1 + sum(range(1, 15)) + 13)

    def test_what_waits_is_lacked_and_is_not_had(self):
        hand, other = with_puts(0, 3), Hand(1)
        take(other, give(hand, NONE)[2:])
        self.assertEqual(lacks(hand, other), 3)
        self.assertEqual(lacks(other, hand), 0)
        self.assertEqual(lacks(other, Hand(2)), 0)

    def test_nothing_is_changed(self):
        hand, other = with_puts(0, 3), with_puts(1, 2)
        before = [state(hand), state(other)]
        lacks(hand, other)
        self.assertEqual([state(hand), state(other)], before)


class Told(Sharing):
    def test_so_many_at_most(self):
        for most, taken in [(0, 0), (1, 1), (3, 3), (4, 4), (5, 5), (6, 5), (1000, 5), (10 ** 59, 5)]:
            hand, other = with_puts(0, 5), Hand(1)
            self.assertEqual(told(hand, other, most), taken)
            self.assertEqual(other.have(0), taken)
            self.assertEqual(give(other, NONE), give(hand, NONE)[:taken])

    def test_fewer_than_none_are_none(self):
        hand, other = with_puts(0, 5), Hand(1)
        self.assertEqual(told(hand, other, -1), 0)
        self.assertEqual(other.have(0), 0)

    def test_the_first_in_the_order_of_what_is_lacked(self):
        hand, other = Hand(0), Hand(9)
        operations = [(3, 1, 2, PUT), (1, 1, 2, PUT), (2, 1, 1, PUT), (1, 2, 3, PUT), (3, 2, 3, PUT), (2, 2, 9, PUT)]
        take(hand, operations)
        take(other, [(2, 1, 1, PUT)])
        self.assertEqual(told(hand, other, 3), 3)
        self.assertEqual(give(other, NONE), [(2, 1, 1, PUT), (1, 1, 2, PUT), (3, 1, 2, PUT), (1, 2, 3, PUT)])
        self.assertEqual(told(hand, other, 3), 2)
        self.assert_same(hand, other)

    def test_again_and_again_till_nothing_is_lacked(self):
        hand, other = with_puts(0, 7), with_puts(1, 2)
        self.assertEqual([told(hand, other, 3) for k in range(4)], [3, 3, 1, 0])
        self.assertEqual(lacks(hand, other), 0)

    def test_the_teller_takes_nothing(self):
        hand, other = with_puts(0, 3), with_puts(1, 2)
        before = state(hand)
        told(hand, other, 9)
        self.assertEqual(state(hand), before)
        self.assertEqual(haves(other)[:3], [3, 2, 0])

    def test_what_others_made_is_told_on(self):
        first, second, third = with_puts(0, 2), Hand(1), Hand(2)
        told(first, second, 9)
        self.assertEqual(told(second, third, 9), 2)
        self.assert_same(first, third)

    def test_those_that_waited_count(self):
        hand, other = with_puts(0, 4), Hand(1)
        take(other, give(hand, NONE)[2:])
        self.assertEqual(told(hand, other, 1), 1)
        self.assertEqual(told(hand, other, 1), 3)

    def test_what_waits_is_not_told(self):
        hand, other = Hand(0), Hand(1)
        take(hand, [(5, 2, 2, PUT)])
        self.assertEqual(told(hand, other, 9), 0)

    def test_a_hand_tells_itself_nothing(self):
        hand = with_puts(0, 3)
        self.assertEqual(told(hand, hand, 9), 0)

    def test_what_is_refused_changes_nothing(self):
        hand, other = Hand(0), Hand(1)
        take(hand, [(2, 1, 1, PUT), (2, 2, 5, PUT)])
        take(other, [(2, 2, 4, PUT)])
        before = [state(hand), state(other)]
        with self.assertRaises(Unlike):
            told(hand, other, 2)
        self.assertEqual([state(hand), state(other)], before)
        self.assertEqual(told(hand, Hand(3), 2), 2)

    def test_own_operations_of_an_earlier_life_are_refused(self):
        hand = with_puts(0, 1)
        earlier = saved(hand)
        put(hand, "root", None)
        with self.assertRaises(Unlike):
            told(hand, loaded(earlier), 9)

    def test_times_are_looked_at(self):
        hand, other = Hand(0), Hand(1)
        take(hand, [(2, 1, 5, PUT)])
        take(other, [(2, 3, 5, PUT)])
        with self.assertRaises(NoTime):
            told(hand, other, 9)


class Met(Sharing):
    def test_new_hands(self):
        self.assertEqual(met(Hand(0), Hand(1)), 0)

    def test_after_each_made_some_of_its_own_and_again(self):
        one, other = with_puts(0, 3), with_puts(1, 2)
        write(one, (0, 1), 0, "one's")
        write(other, (1, 1), 0, "the other's")
        self.assertEqual(met(one, other), 7)
        self.assert_same(one, other)
        self.assertEqual(met(one, other), 0)
        self.assertEqual(met(other, one), 0)
        write(one, (1, 1), 0, "and ")
        drop(other, (0, 1))
        undo(one)
        place(other, (0, 2), 3, -4)
        self.assertEqual(met(other, one), 4)
        self.assert_same(one, other)
        self.assertEqual(lacks(one, other) + lacks(other, one), 0)

    def test_one_alone_lacks(self):
        for one, other in [(with_puts(0, 3), Hand(1)), (Hand(0), with_puts(1, 3))]:
            self.assertEqual(met(one, other), 3)
            self.assert_same(one, other)

    def test_a_hand_meets_itself(self):
        hand = with_puts(0, 3)
        self.assertEqual(met(hand, hand), 0)
        self.assertEqual(hand.have(0), 3)

    def test_the_same_item_written_by_both(self):
        one = with_puts(0, 1)
        other = Hand(1)
        met(one, other)
        write(one, (0, 1), 0, "tea")
        write(other, (0, 1), 0, "hot ")
        met(one, other)
        # Of equal times the lower hand comes first, so the later one's stands ahead.
        self.assertEqual(shown(one), ["hot tea"])
        self.assertEqual(shown(other), ["hot tea"])

    def test_the_one_tells_first(self):
        # What the other tells is refused, so what the other has taken by then was told ahead of it.
        one, other = Hand(0), Hand(1)
        take(one, [(2, 1, 1, PUT), (3, 2, 2, PUT)])
        take(other, [(3, 1, 2, PUT)])
        with self.assertRaises(NoTime):
            met(one, other)
        self.assertEqual(haves(other)[2:4], [1, 1])
        self.assertEqual(haves(one)[2:4], [1, 0])

    def test_what_waited_counts_and_is_told_back(self):
        # The other takes what waited with it, and the one, which never heard of that, hears of it in the same meeting.
        third = with_puts(2, 3)
        one, other = Hand(0), Hand(1)
        take(one, give(third, NONE)[:2])
        take(other, give(third, NONE)[2:])
        self.assertEqual(met(one, other), 4)
        self.assert_same(one, other)
        self.assert_same(one, third)

    def test_more_hands_in_whatever_order_they_meet(self):
        pictures = []
        for pairs in itertools.permutations([(0, 1), (1, 2), (0, 2)]):
            hands = [with_puts(ours, 2) for ours in range(3)]
            for hand in hands:
                write(hand, (hand.ours, 1), 0, "ab")
            # Twice, so that everything has come to everybody.
            for one, other in pairs + pairs:
                met(hands[one], hands[other])
            for hand in hands[1:]:
                self.assert_same(hands[0], hand)
            pictures.append(state(hands[0]))
        for other in pictures[1:]:
            self.assertEqual(other, pictures[0])

    def test_an_item_that_another_dropped_and_brought_back(self):
        one, other = with_puts(0, 1), Hand(1)
        met(one, other)
        drop(other, (0, 1))
        met(one, other)
        self.assertEqual(shown(one), [])
        self.assertTrue(there(one, (0, 1)))
        undo(other)
        met(one, other)
        self.assertEqual(shown(one), [""])


if __name__ == "__main__":
    unittest.main()
