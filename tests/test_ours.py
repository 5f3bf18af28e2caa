"""[5.1] to [5.3]: the operations that a hand makes itself, and what is refused."""

import unittest

from manyhands.asking import children, is_undone, number, parent, shown, signs, text, there, writers
from manyhands.errors import NoDeed, Nothing, NotThere
from manyhands.hands import Hand, give, take
from manyhands.names import is_operation
from manyhands.ours import cut, drop, move, place, put, redo, undo, write
from manyhands.sharing import met
from samples import MOST
from views import state

ROOT_PUT = ("put", "root", None)
MISSING = [(0, 400), (5, 1), (15, MOST), (0, 0), (0, -1), (16, 1)]


def made(hand):
    """The hand's own operations."""
    return [operation for operation in give(hand, [0] * 16) if operation[0] == hand.ours]


def last(hand):
    return made(hand)[-1]


class Ours(unittest.TestCase):
    def assert_refused(self, refusal, make, hand, *things):
        """It is refused with just that, and makes nothing."""
        before = state(hand)
        with self.subTest(make=make.__name__, things=things):
            with self.assertRaises(refusal):
                make(hand, *things)
            self.assertEqual(state(hand), before)

    def assert_not_there(self, make, hand, *things):
        self.assert_refused(NotThere, make, hand, *things)


class NameAndTime(Ours):
    def test_the_first_one(self):
        for ours in [0, 7, 15]:
            hand = Hand(ours)
            self.assertEqual(put(hand, "root", None), (ours, 1))
            self.assertEqual(made(hand), [(ours, 1, 1, ROOT_PUT)])
            self.assertEqual(hand.have(ours), 1)

    def test_numbers_and_times_one_after_the_other(self):
        hand = Hand(3)
        self.assertEqual([put(hand, "root", None) for k in range(5)], [(3, k) for k in range(1, 6)])
        self.assertEqual(made(hand), [(3, k, k, ROOT_PUT) for k in range(1, 6)])

    def test_one_more_than_the_greatest_of_all_taken_ones(self):
        hand = Hand(3)
        put(hand, "root", None)
        take(hand, [(1, 1, 700, ROOT_PUT), (2, 1, 40, ROOT_PUT)])
        put(hand, "root", None)
        put(hand, "root", None)
        take(hand, [(2, 2, 10 ** 58, ROOT_PUT), (1, 2, 9000, ROOT_PUT)])
        put(hand, "root", None)
        self.assertEqual([operation[:3] for operation in made(hand)], [
            (3, 1, 1), (3, 2, 701), (3, 3, 702), (3, 4, 10 ** 58 + 1),
        ])

    def test_times_of_others_that_are_behind_say_nothing(self):
        hand = Hand(3)
        for k in range(5):
            put(hand, "root", None)
        take(hand, [(1, 1, 2, ROOT_PUT)])
        put(hand, "root", None)
        self.assertEqual(last(hand)[:3], (3, 6, 6))

    def test_what_waits_says_nothing(self):
        hand = Hand(3)
        take(hand, [(1, 2, 700, ROOT_PUT)])
        put(hand, "root", None)
        self.assertEqual(last(hand)[:3], (3, 1, 1))

    def test_every_kind(self):
        hand = Hand(4)
        take(hand, [(1, 1, 5, ROOT_PUT)])
        self.assertEqual(put(hand, "root", (1, 1)), (4, 1))
        self.assertEqual(move(hand, (1, 1), (4, 1), None), (4, 2))
        self.assertEqual(drop(hand, (1, 1)), (4, 3))
        self.assertEqual(write(hand, (1, 1), 0, "abc"), [(4, 4)])
        self.assertEqual(cut(hand, (1, 1), 1, 2), [(4, 5)])
        self.assertEqual(place(hand, (1, 1), 2, -8), (4, 6))
        self.assertEqual(undo(hand), (4, 7))
        self.assertEqual(redo(hand), (4, 8))
        self.assertEqual(made(hand), [
            (4, 1, 6, ("put", "root", (1, 1))), (4, 2, 7, ("move", (1, 1), (4, 1), None)), (4, 3, 8, ("drop", (1, 1))),
            (4, 4, 9, ("write", (1, 1), None, "abc")), (4, 5, 10, ("cut", (1, 1), (4, 4, 1), 2)),
            (4, 6, 11, ("set", (1, 1), 2, -8)), (4, 7, 12, ("undo", (4, 6))), (4, 8, 13, ("redo", (4, 6))),
        ])
        for operation in made(hand):
            self.assertTrue(is_operation(operation))

    def test_others_take_what_was_made(self):
        hand, other = Hand(0), Hand(1)
        put(hand, "root", None)
        write(hand, (0, 1), 0, "from hand to hand, longer than one")
        cut(hand, (0, 1), 4, 9)
        undo(hand)
        self.assertEqual(take(other, give(hand, [0] * 16)), len(made(hand)))
        self.assertEqual(shown(other), shown(hand))

    def test_more_than_400_are_not_refused(self):
        hand = Hand(0)
        for k in range(405):
            put(hand, "root", None)
        self.assertEqual(hand.have(0), 405)


class Putting(Ours):
    def test_below_the_root_the_bin_and_items(self):
        hand = Hand(0)
        first = put(hand, "root", None)
        self.assertEqual(last(hand)[3], ROOT_PUT)
        second = put(hand, "bin", None)
        self.assertEqual(last(hand)[3], ("put", "bin", None))
        third = put(hand, first, None)
        self.assertEqual(last(hand)[3], ("put", first, None))
        fourth = put(hand, second, None)
        self.assertEqual([parent(hand, name) for name in [first, second, third, fourth]],
                         ["root", "bin", first, second])

    def test_behind_a_sibling_that_is_a_child_or_none(self):
        hand = Hand(0)
        first = put(hand, "root", None)
        second = put(hand, "root", first)
        third = put(hand, "root", first)
        inner = put(hand, first, second)
        far = put(hand, "root", (9, 9))
        self.assertEqual(children(hand, "root"), [far, first, third, second])
        self.assertEqual(children(hand, first), [inner])
        self.assertEqual([operation[3] for operation in made(hand)], [
            ROOT_PUT, ("put", "root", first), ("put", "root", first), ("put", first, second), ("put", "root", (9, 9)),
        ])

    def test_below_what_is_not_there(self):
        hand = Hand(0)
        for name in MISSING + [(0, 1)]:
            self.assert_not_there(put, hand, name, None)
        put(hand, "root", None)
        write(hand, (0, 1), 0, "a")
        self.assert_not_there(put, hand, (0, 2), None)
        self.assert_not_there(put, hand, (0, 3), (0, 1))
        undo(hand)
        undo(hand)
        self.assert_not_there(put, hand, (0, 1), None)
        redo(hand)
        self.assertEqual(put(hand, (0, 1), None), (0, 6))

    def test_below_what_waits(self):
        hand = Hand(0)
        take(hand, [(1, 2, 2, ROOT_PUT)])
        self.assert_not_there(put, hand, (1, 2), None)

    def test_a_put_that_another_has_undone_ahead_of_it(self):
        hand = Hand(0)
        take(hand, [(1, 1, 1, ("undo", (0, 1)))])
        self.assertEqual(put(hand, "root", None), (0, 1))
        self.assertFalse(there(hand, (0, 1)))
        self.assertTrue(is_undone(hand, (0, 1)))


class WithItems(Ours):
    def setUp(self):
        self.hand = Hand(0)
        self.top = put(self.hand, "root", None)
        self.inner = put(self.hand, self.top, None)
        self.deep = put(self.hand, self.inner, None)
        self.other = put(self.hand, "root", None)
        self.dropped = put(self.hand, "bin", None)


class Moving(WithItems):
    def test_below_the_root_the_bin_and_items(self):
        for above in ["root", "bin", self.other, self.dropped, self.top]:
            name = move(self.hand, self.inner, above, None)
            self.assertEqual(last(self.hand)[:2], name)
            self.assertEqual(last(self.hand)[3], ("move", self.inner, above, None))
            self.assertEqual(parent(self.hand, self.inner), above)
            self.assertEqual(parent(self.hand, self.deep), self.inner)

    def test_behind_siblings(self):
        move(self.hand, self.inner, "root", self.other)
        self.assertEqual(children(self.hand, "root"), [self.other, self.inner, self.top])
        self.assertEqual(last(self.hand)[3], ("move", self.inner, "root", self.other))
        move(self.hand, self.inner, "root", self.dropped)
        self.assertEqual(children(self.hand, "root"), [self.inner, self.other, self.top])
        move(self.hand, self.other, "root", self.other)
        self.assertEqual(children(self.hand, "root"), [self.other, self.inner, self.top])

    def test_to_where_it_stands_already(self):
        before = shown(self.hand), children(self.hand, "root")
        self.assertEqual(move(self.hand, self.other, "root", None), (0, 6))
        self.assertEqual(move(self.hand, self.top, "root", self.other), (0, 7))
        self.assertEqual(move(self.hand, self.inner, self.top, None), (0, 8))
        self.assertEqual((shown(self.hand), children(self.hand, "root")), before)

    def test_below_itself(self):
        for item, above in [(self.top, self.top), (self.top, self.inner), (self.top, self.deep),
                            (self.inner, self.deep), (self.deep, self.deep)]:
            self.assert_not_there(move, self.hand, item, above, None)
            self.assert_not_there(move, self.hand, item, above, self.other)

    def test_the_root_and_the_bin(self):
        for name in ["root", "bin"]:
            for above in ["root", "bin", self.top]:
                self.assert_not_there(move, self.hand, name, above, None)

    def test_what_is_not_there(self):
        for name in MISSING:
            self.assert_not_there(move, self.hand, name, "root", None)
            self.assert_not_there(move, self.hand, self.top, name, None)
            self.assert_not_there(move, self.hand, name, name, None)

    def test_an_undone_put(self):
        undo(self.hand)
        self.assert_not_there(move, self.hand, self.dropped, "root", None)
        self.assert_not_there(move, self.hand, self.top, self.dropped, None)

    def test_out_of_the_bin(self):
        move(self.hand, self.dropped, self.deep, None)
        self.assertEqual(parent(self.hand, self.dropped), self.deep)


class Dropping(WithItems):
    def test_items_at_every_depth(self):
        for item in [self.deep, self.top, self.other]:
            name = drop(self.hand, item)
            self.assertEqual(last(self.hand), name + (name[1], ("drop", item)))
        self.assertEqual(children(self.hand, "bin"), [self.other, self.top, self.deep, self.dropped])
        self.assertEqual(children(self.hand, "root"), [])
        self.assertEqual(children(self.hand, self.top), [self.inner])

    def test_what_lies_in_the_bin_already(self):
        drop(self.hand, self.top)
        self.assertEqual(drop(self.hand, self.dropped), (0, 7))
        self.assertEqual(drop(self.hand, self.dropped), (0, 8))
        self.assertEqual(children(self.hand, "bin"), [self.dropped, self.top])
        self.assertEqual(drop(self.hand, self.inner), (0, 9))
        self.assertEqual(children(self.hand, "bin"), [self.inner, self.dropped, self.top])

    def test_the_root_the_bin_and_what_is_not_there_are_not_dropped(self):
        undo(self.hand)
        for name in ["root", "bin", self.dropped] + MISSING:
            self.assert_not_there(drop, self.hand, name)


class Placing(Ours):
    def setUp(self):
        self.hand = Hand(0)
        put(self.hand, "root", None)

    def test_each_place(self):
        for at, value in [(0, 5), (3, -6), (1, 0), (2, MOST), (0, -MOST), (0, 0)]:
            name = place(self.hand, (0, 1), at, value)
            self.assertEqual(last(self.hand), name + (name[1], ("set", (0, 1), at, value)))
            self.assertEqual(number(self.hand, (0, 1), at), value)
        self.assertEqual([number(self.hand, (0, 1), at) for at in range(4)], [0, 0, MOST, -6])

    def test_a_number_that_stands_there_already_is_made(self):
        self.assertEqual(place(self.hand, (0, 1), 0, 0), (0, 2))

    def test_in_the_bin(self):
        drop(self.hand, (0, 1))
        self.assertEqual(place(self.hand, (0, 1), 3, 4), (0, 3))
        self.assertEqual(number(self.hand, (0, 1), 3), 4)

    def test_places_that_are_not_there(self):
        for at in [-1, -4, 4, 5, MOST, -MOST]:
            self.assert_not_there(place, self.hand, (0, 1), at, 7)

    def test_what_is_no_item(self):
        for name in ["root", "bin"] + MISSING:
            for at in [-1, 0, 3, 4]:
                self.assert_not_there(place, self.hand, name, at, 7)
        undo(self.hand)
        self.assert_not_there(place, self.hand, (0, 1), 0, 7)


class Writing(Ours):
    def setUp(self):
        self.hand = Hand(0)
        put(self.hand, "root", None)

    def deeds(self):
        """The deeds of all but the put."""
        return [operation[3] for operation in made(self.hand)[1:]]

    def assert_text(self, expected):
        self.assertEqual(text(self.hand, (0, 1)), expected)

    def test_no_signs(self):
        before = state(self.hand)
        self.assertEqual(write(self.hand, (0, 1), 0, ""), [])
        self.assertEqual(state(self.hand), before)
        write(self.hand, (0, 1), 0, "ab")
        before = state(self.hand)
        for at in range(3):
            self.assertEqual(write(self.hand, (0, 1), at, ""), [])
        self.assertEqual(state(self.hand), before)

    def test_one_sign_at_each_place(self):
        write(self.hand, (0, 1), 0, "abc")
        self.assertEqual(write(self.hand, (0, 1), 0, "1"), [(0, 3)])
        self.assert_text("1abc")
        self.assertEqual(write(self.hand, (0, 1), 2, "2"), [(0, 4)])
        self.assert_text("1a2bc")
        self.assertEqual(write(self.hand, (0, 1), 5, "3"), [(0, 5)])
        self.assert_text("1a2bc3")
        self.assertEqual(self.deeds()[1:], [
            ("write", (0, 1), None, "1"), ("write", (0, 1), (0, 2, 0), "2"), ("write", (0, 1), (0, 2, 2), "3"),
        ])

    def test_lengths_in_operations_of_16(self):
        row = "abcdefghijklmnopqrstuvwxyz0123456789+-*/ ABCDEFGH"
        for many, parts in [(1, [1]), (2, [2]), (15, [15]), (16, [16]), (17, [16, 1]), (32, [16, 16]),
                            (33, [16, 16, 1]), (40, [16, 16, 8]), (49, [16, 16, 16, 1])]:
            for at, around in [(0, ("", "<>")), (1, ("<", ">")), (2, ("<>", ""))]:
                hand = Hand(5)
                put(hand, "root", None)
                write(hand, (5, 1), 0, "<>")
                names = write(hand, (5, 1), at, row[:many])
                self.assertEqual(names, [(5, 3 + k) for k in range(len(parts))])
                self.assertEqual([len(operation[3][3]) for operation in made(hand)[2:]], parts)
                self.assertEqual(text(hand, (5, 1)), around[0] + row[:many] + around[1])
                behind = [None, (5, 2, 0), (5, 2, 1)][at]
                for k, operation in enumerate(made(hand)[2:]):
                    words = row[16 * k:min(16 * k + 16, many)]
                    self.assertEqual(operation, (5, 3 + k, 3 + k, ("write", (5, 1), behind, words)))
                    behind = (5, 3 + k, 15)

    def test_behind_the_end_and_ahead_of_the_beginning(self):
        self.assert_not_there(write, self.hand, (0, 1), 1, "a")
        self.assert_not_there(write, self.hand, (0, 1), -1, "a")
        write(self.hand, (0, 1), 0, "abc")
        for at in [4, 5, 16, MOST, -1, -3]:
            self.assert_not_there(write, self.hand, (0, 1), at, "x")
            self.assert_not_there(write, self.hand, (0, 1), at, "x" * 40)
            self.assert_not_there(write, self.hand, (0, 1), at, "")

    def test_what_is_no_item(self):
        undone_item = put(self.hand, "root", None)
        undo(self.hand)
        for name in ["root", "bin", undone_item, (0, 3)] + MISSING:
            for words in ["a", "", "a" * 40]:
                self.assert_not_there(write, self.hand, name, 0, words)

    def test_in_the_bin(self):
        drop(self.hand, (0, 1))
        write(self.hand, (0, 1), 0, "still there")
        self.assert_text("still there")

    def test_places_count_the_signs_shown_alone(self):
        write(self.hand, (0, 1), 0, "abcdef")
        cut(self.hand, (0, 1), 1, 3)
        self.assert_text("aef")
        write(self.hand, (0, 1), 1, "X")
        self.assert_text("aXef")
        self.assertEqual(last(self.hand)[3], ("write", (0, 1), (0, 2, 0), "X"))
        write(self.hand, (0, 1), 3, "Y")
        self.assert_text("aXeYf")
        self.assertEqual(last(self.hand)[3], ("write", (0, 1), (0, 2, 4), "Y"))
        self.assert_not_there(write, self.hand, (0, 1), 6, "Z")
        write(self.hand, (0, 1), 5, "Z")
        self.assert_text("aXeYfZ")

    def test_at_the_beginning_ahead_of_cut_signs_too(self):
        write(self.hand, (0, 1), 0, "ab")
        cut(self.hand, (0, 1), 0, 2)
        self.assert_not_there(write, self.hand, (0, 1), 1, "c")
        write(self.hand, (0, 1), 0, "c")
        self.assertEqual(last(self.hand)[3], ("write", (0, 1), None, "c"))
        take(self.hand, [(1, 1, 99, ("undo", (0, 3)))])
        self.assert_text("cab")

    def test_behind_a_sign_of_another(self):
        take(self.hand, [(2, 1, 9, ("write", (0, 1), None, "pq"))])
        write(self.hand, (0, 1), 1, "x")
        self.assertEqual(last(self.hand)[3], ("write", (0, 1), (2, 1, 0), "x"))
        self.assert_text("pxq")
        self.assertEqual(writers(self.hand, (0, 1)), [2, 0, 2])

    def test_signs_that_no_operation_may_have(self):
        for words in ["5" + chr(37), "a\nb", "\t", "a" * 20 + chr(127), chr(228)]:
            self.assert_refused(NoDeed, write, self.hand, (0, 1), 0, words)


class Cutting(Ours):
    def setUp(self):
        self.hand = Hand(0)
        put(self.hand, "root", None)
        write(self.hand, (0, 1), 0, "abcdefgh")

    def assert_cut(self, at, many, rows, left):
        """The cut makes these operations, told as rows of a first sign and how many, and leaves that text."""
        before = len(made(self.hand))
        names = cut(self.hand, (0, 1), at, many)
        self.assertEqual(names, [(0, before + k) for k in range(1, len(rows) + 1)])
        self.assertEqual([operation[3] for operation in made(self.hand)[before:]],
                         [("cut", (0, 1), first, length) for first, length in rows])
        self.assertEqual(text(self.hand, (0, 1)), left)

    def test_none(self):
        before = state(self.hand)
        for at in [0, 3, 8]:
            self.assertEqual(cut(self.hand, (0, 1), at, 0), [])
        self.assertEqual(state(self.hand), before)

    def test_some_at_the_beginning_in_the_middle_and_at_the_end(self):
        self.assert_cut(0, 1, [((0, 2, 0), 1)], "bcdefgh")
        self.assert_cut(2, 3, [((0, 2, 3), 3)], "bcgh")
        self.assert_cut(3, 1, [((0, 2, 7), 1)], "bcg")

    def test_all(self):
        self.assert_cut(0, 8, [((0, 2, 0), 8)], "")
        self.assertEqual(cut(self.hand, (0, 1), 0, 0), [])

    def test_sixteen_and_more_of_one_writing(self):
        hand = self.hand
        put(hand, "root", None)
        write(hand, (0, 3), 0, "x" * 40)
        names = cut(hand, (0, 3), 10, 25)
        self.assertEqual(len(names), 3)
        self.assertEqual([operation[3] for operation in made(hand)[-3:]], [
            ("cut", (0, 3), (0, 4, 10), 6), ("cut", (0, 3), (0, 5, 0), 16), ("cut", (0, 3), (0, 6, 0), 3),
        ])
        self.assertEqual(text(hand, (0, 3)), "x" * 15)

    def test_rows_of_several_operations(self):
        write(self.hand, (0, 1), 4, "XY")
        take(self.hand, [(1, 1, 50, ("write", (0, 1), (0, 2, 5), "pq"))])
        self.assertEqual(text(self.hand, (0, 1)), "abcdXYefpqgh")
        self.assert_cut(2, 9, [((0, 2, 2), 2), ((0, 3, 0), 2), ((0, 2, 4), 2), ((1, 1, 0), 2), ((0, 2, 6), 1)], "abh")

    def test_cut_signs_of_the_same_operation_between_them(self):
        cut(self.hand, (0, 1), 3, 2)
        self.assert_cut(1, 4, [((0, 2, 1), 2), ((0, 2, 5), 2)], "ah")

    def test_cut_signs_of_another_operation_between_them(self):
        write(self.hand, (0, 1), 4, "XY")
        cut(self.hand, (0, 1), 4, 2)
        self.assert_cut(2, 4, [((0, 2, 2), 4)], "abgh")

    def test_signs_that_are_shown_between_them_part_a_row(self):
        write(self.hand, (0, 1), 4, "X")
        self.assert_cut(3, 3, [((0, 2, 3), 1), ((0, 3, 0), 1), ((0, 2, 4), 1)], "abcfgh")

    def test_neighbours_of_two_operations_whose_places_go_on(self):
        # (0, 3, 1) stands right behind (0, 2, 0), but they are no signs of one operation.
        write(self.hand, (0, 1), 1, "XY")
        cut(self.hand, (0, 1), 1, 1)
        self.assertEqual(signs(self.hand, (0, 1))[:3], [(0, 2, 0), (0, 3, 1), (0, 2, 1)])
        self.assert_cut(0, 2, [((0, 2, 0), 1), ((0, 3, 1), 1)], "bcdefgh")

    def test_more_than_stand_there(self):
        for at, many in [(0, 9), (1, 8), (7, 2), (8, 1), (0, MOST), (9, 0), (9, 1), (-1, 1), (-1, 0), (100, 0)]:
            self.assert_not_there(cut, self.hand, (0, 1), at, many)
        cut(self.hand, (0, 1), 0, 5)
        self.assert_not_there(cut, self.hand, (0, 1), 0, 4)
        self.assert_cut(0, 3, [((0, 2, 5), 3)], "")
        self.assert_not_there(cut, self.hand, (0, 1), 0, 1)

    def test_fewer_than_none_are_none(self):
        before = state(self.hand)
        self.assertEqual(cut(self.hand, (0, 1), 0, -1), [])
        self.assertEqual(cut(self.hand, (0, 1), 5, -3), [])
        self.assertEqual(state(self.hand), before)

    def test_what_is_no_item(self):
        undone_item = put(self.hand, "root", None)
        undo(self.hand)
        for name in ["root", "bin", undone_item, (0, 2)] + MISSING:
            for many in [0, 1]:
                self.assert_not_there(cut, self.hand, name, 0, many)

    def test_in_the_bin(self):
        drop(self.hand, (0, 1))
        self.assert_cut(0, 7, [((0, 2, 0), 7)], "h")


class Undoing(Ours):
    def setUp(self):
        self.hand = Hand(0)

    def assert_made(self, name, deed):
        self.assertEqual(last(self.hand), name + (last(self.hand)[2], deed))

    def assert_undoes(self, named):
        self.assert_made(undo(self.hand), ("undo", named))

    def assert_redoes(self, named):
        self.assert_made(redo(self.hand), ("redo", named))

    def assert_nothing(self, make):
        self.assert_refused(Nothing, make, self.hand)

    def test_a_new_hand(self):
        self.assert_nothing(undo)
        self.assert_nothing(redo)

    def test_operations_of_others_alone(self):
        take(self.hand, [(1, 1, 1, ROOT_PUT), (1, 2, 2, ROOT_PUT), (2, 1, 3, ("undo", (1, 2)))])
        self.assert_nothing(undo)
        self.assert_nothing(redo)

    def test_one_behind_the_other_and_back(self):
        for k in range(3):
            put(self.hand, "root", None)
        for k in [3, 2, 1]:
            self.assert_undoes((0, k))
            self.assertEqual(children(self.hand, "root"), [(0, j) for j in range(k - 1, 0, -1)])
        self.assert_nothing(undo)
        for k in [1, 2, 3]:
            self.assert_redoes((0, k))
            self.assertEqual(children(self.hand, "root"), [(0, j) for j in range(k, 0, -1)])
        self.assert_nothing(redo)
        self.assertEqual(self.hand.have(0), 9)

    def test_several_times(self):
        put(self.hand, "root", None)
        for k in range(4):
            self.assert_undoes((0, 1))
            self.assertFalse(there(self.hand, (0, 1)))
            self.assert_nothing(undo)
            self.assert_redoes((0, 1))
            self.assertTrue(there(self.hand, (0, 1)))
            self.assert_nothing(redo)

    def test_an_operation_between_undo_and_redo(self):
        first = put(self.hand, "root", None)
        second = put(self.hand, "root", None)
        self.assert_undoes(second)
        later = put(self.hand, "root", None)
        self.assert_redoes(second)
        self.assertEqual(children(self.hand, "root"), [later, second, first])
        self.assert_undoes(later)
        self.assert_undoes(second)
        self.assert_redoes(second)
        self.assert_redoes(later)

    def test_every_kind_is_undone(self):
        item = put(self.hand, "root", None)
        writes = write(self.hand, item, 0, "a" * 20)
        cuts = cut(self.hand, item, 15, 2)
        others = [place(self.hand, item, 1, 5), move(self.hand, item, "bin", None), drop(self.hand, item)]
        names = [item] + writes + cuts + others
        for name in reversed(names):
            self.assert_undoes(name)
        self.assert_nothing(undo)
        for name in names:
            self.assert_redoes(name)
        self.assertEqual(text(self.hand, item), "a" * 18)

    def test_what_others_have_undone_is_passed_over(self):
        first = put(self.hand, "root", None)
        second = put(self.hand, "root", None)
        take(self.hand, [(1, 1, 9, ("undo", second))])
        self.assert_undoes(first)
        self.assert_nothing(undo)
        self.assert_redoes(first)
        self.assert_redoes(second)
        self.assert_nothing(redo)

    def test_what_others_have_redone_is_undone_again(self):
        first = put(self.hand, "root", None)
        second = put(self.hand, "root", None)
        self.assert_undoes(second)
        take(self.hand, [(1, 1, 9, ("redo", second))])
        self.assert_nothing(redo)
        self.assert_undoes(second)
        self.assert_undoes(first)

    def test_the_one_whose_last_undo_comes_last(self):
        first, second, third = [put(self.hand, "root", None) for k in range(3)]
        for k in range(3):
            undo(self.hand)
        # Undone in the order third, second, first; others have undone them again, later.
        take(self.hand, [(1, 1, 20, ("undo", second)), (2, 1, 19, ("undo", third)), (3, 1, 20, ("undo", third))])
        for name in [third, second, first]:
            self.assert_redoes(name)
        self.assert_nothing(redo)

    def test_an_undo_that_comes_late_but_is_early_in_the_order(self):
        first = put(self.hand, "root", None)
        second = put(self.hand, "root", None)
        undo(self.hand)
        take(self.hand, [(1, 1, 2, ("undo", first)), (1, 2, 3, ("redo", second))])
        # Hand 1's redo has the same time as the own undo and comes behind it.
        self.assert_redoes(first)
        self.assert_nothing(redo)

    def test_deeds_that_name_an_undone_item_say_nothing(self):
        first = put(self.hand, "root", None)
        second = put(self.hand, "root", None)
        undo(self.hand)
        undo(self.hand)
        take(self.hand, [(1, 1, 50, ("set", second, 0, 1)), (1, 2, 51, ("put", second, None))])
        self.assert_redoes(first)
        self.assert_redoes(second)

    def test_undos_of_what_others_made_are_not_redone(self):
        take(self.hand, [(1, 1, 1, ROOT_PUT)])
        mine = put(self.hand, "root", None)
        self.assert_undoes(mine)
        take(self.hand, [(2, 1, 50, ("undo", (1, 1))), (2, 2, 51, ("undo", (0, 2))), (2, 3, 52, ("undo", (0, 77)))])
        self.assert_redoes(mine)
        self.assert_nothing(redo)

    def test_an_undo_ahead_of_what_it_names(self):
        take(self.hand, [(1, 1, 5, ("undo", (0, 2)))])
        self.assert_nothing(redo)
        first = put(self.hand, "root", None)
        second = put(self.hand, "root", None)
        self.assertFalse(there(self.hand, second))
        self.assert_undoes(first)
        self.assert_redoes(first)
        self.assert_redoes(second)
        self.assertTrue(there(self.hand, second))

    def test_undos_that_wait_say_nothing(self):
        mine = put(self.hand, "root", None)
        take(self.hand, [(1, 2, 9, ("undo", mine))])
        self.assert_nothing(redo)
        self.assert_undoes(mine)

    def test_two_hands_undo_their_own(self):
        other = Hand(1)
        mine = put(self.hand, "root", None)
        met(self.hand, other)
        write(other, mine, 0, "theirs")
        met(self.hand, other)
        self.assert_undoes(mine)
        met(self.hand, other)
        self.assertFalse(there(other, mine))
        self.assertEqual(undo(other), (1, 2))
        self.assertEqual(last(other)[3], ("undo", (1, 1)))
        redo(self.hand)
        redo(other)
        met(self.hand, other)
        self.assertEqual(shown(self.hand), ["theirs"])
        self.assertEqual(shown(other), ["theirs"])


if __name__ == "__main__":
    unittest.main()
