"""[4.1] and [4.2]: what a hand shows of what it has taken, and what is no such thing."""

import unittest

from manyhands.asking import (children, is_undone, number, pages, parent, shown, signs, text, there, writers)
from manyhands.errors import NotThere
from manyhands.hands import Hand, take
from manyhands.ours import put
from samples import MOST
from sessions import session
from views import Plain, numbered, plain_undone, state

ROOT_PUT = ("put", "root", None)
MISSING = [(0, 400), (5, 1), (15, MOST), (0, 0), (0, -1), (16, 1), (-1, 1)]


def hand_with(*operations):
    """Hand 9, which has taken the operations."""
    hand = Hand(9)
    taken = take(hand, list(operations))
    if taken != len(operations):
        raise ValueError("not all were taken")
    return hand


def hand_with_deeds(*deeds):
    """Like hand_with, of deeds: the n-th has the name (0, n)."""
    return hand_with(*numbered(*deeds))


class Asking(unittest.TestCase):
    def setUp(self):
        # (0, 1) with the children (0, 3) and (0, 2), (0, 2) with the child (0, 4); (0, 5) in the bin with the
        # child (0, 6); the puts of (0, 7) and of (0, 8), which is below it, undone and not.
        self.hand = hand_with_deeds(
            ROOT_PUT, ("put", (0, 1), None), ("put", (0, 1), None), ("put", (0, 2), None),
            ("put", "bin", None), ("put", (0, 5), None), ROOT_PUT, ("put", (0, 7), None), ("undo", (0, 7)),
            ("write", (0, 4), None, "deep"), ("write", (0, 6), None, "dropped"), ("set", (0, 6), 3, -7),
        )

    def assert_not_there(self, ask, *things):
        with self.subTest(ask=ask.__name__, things=things):
            before = state(self.hand)
            with self.assertRaises(NotThere):
                ask(self.hand, *things)
            self.assertEqual(state(self.hand), before)

    def assert_new_lists(self, ask, *things):
        """A list that was given may be changed without anything being changed."""
        before = state(self.hand)
        given = ask(self.hand, *things)
        expected = list(given)
        self.assertNotEqual(expected, [])
        given.clear()
        given.append(None)
        self.assertEqual(ask(self.hand, *things), expected)
        self.assertEqual(state(self.hand), before)


class There(Asking):
    def test_the_root_and_the_bin(self):
        for hand in [Hand(0), self.hand]:
            self.assertIs(there(hand, "root"), True)
            self.assertIs(there(hand, "bin"), True)

    def test_items_also_in_the_bin(self):
        for number_of_put in [1, 2, 3, 4, 5, 6, 8]:
            self.assertIs(there(self.hand, (0, number_of_put)), True)

    def test_an_undone_put(self):
        self.assertIs(there(self.hand, (0, 7)), False)

    def test_operations_that_put_nothing(self):
        for number_of_other in [9, 10, 11, 12]:
            self.assertIs(there(self.hand, (0, number_of_other)), False)

    def test_what_was_not_taken(self):
        for name in MISSING:
            self.assertIs(there(self.hand, name), False)
            self.assertIs(there(Hand(0), name), False)

    def test_what_waits_is_not_there(self):
        take(self.hand, [(1, 2, 2, ROOT_PUT)])
        self.assertIs(there(self.hand, (1, 2)), False)
        take(self.hand, [(1, 1, 1, ROOT_PUT)])
        self.assertIs(there(self.hand, (1, 2)), True)


class Parent(Asking):
    def test_of_items(self):
        for item, above in [(1, "root"), (2, (0, 1)), (3, (0, 1)), (4, (0, 2)), (5, "bin"), (6, (0, 5)), (8, "bin")]:
            self.assertEqual(parent(self.hand, (0, item)), above)

    def test_after_a_move_and_a_drop(self):
        take(self.hand, [(1, 1, 50, ("move", (0, 2), (0, 3), None)), (1, 2, 51, ("drop", (0, 3)))])
        self.assertEqual(parent(self.hand, (0, 2)), (0, 3))
        self.assertEqual(parent(self.hand, (0, 3)), "bin")

    def test_of_what_has_none(self):
        for name in ["root", "bin", (0, 7)] + MISSING:
            self.assert_not_there(parent, name)


class Children(Asking):
    def test_in_their_order(self):
        self.assertEqual(children(self.hand, "root"), [(0, 1)])
        self.assertEqual(children(self.hand, "bin"), [(0, 8), (0, 5)])
        self.assertEqual(children(self.hand, (0, 1)), [(0, 3), (0, 2)])
        self.assertEqual(children(self.hand, (0, 5)), [(0, 6)])
        self.assertEqual(children(self.hand, (0, 4)), [])

    def test_of_a_new_hand(self):
        self.assertEqual(children(Hand(0), "root"), [])
        self.assertEqual(children(Hand(0), "bin"), [])

    def test_behind_siblings(self):
        hand = hand_with_deeds(ROOT_PUT, ("put", "root", (0, 1)), ("put", "root", (0, 1)), ROOT_PUT)
        self.assertEqual(children(hand, "root"), [(0, 4), (0, 1), (0, 3), (0, 2)])

    def test_of_what_is_not_there(self):
        for name in [(0, 7)] + MISSING:
            self.assert_not_there(children, name)

    def test_the_list_is_new(self):
        for name in ["root", "bin", (0, 1)]:
            self.assert_new_lists(children, name)


class Texts(Asking):
    def setUp(self):
        super().setUp()
        self.written = (0, 1)
        take(self.hand, [
            (1, 1, 20, ("write", (0, 1), None, "hello")), (2, 1, 21, ("write", (0, 1), (1, 1, 4), " all")),
            (3, 1, 22, ("write", (0, 1), (1, 1, 1), "XY")), (1, 2, 23, ("cut", (0, 1), (1, 1, 2), 2)),
            (4, 1, 24, ("cut", (0, 1), (3, 1, 0), 1)),
        ])

    def test_without_the_signs_that_are_cut(self):
        self.assertEqual(text(self.hand, self.written), "heYo all")
        self.assertEqual(signs(self.hand, self.written), [
            (1, 1, 0), (1, 1, 1), (3, 1, 1), (1, 1, 4), (2, 1, 0), (2, 1, 1), (2, 1, 2), (2, 1, 3),
        ])
        self.assertEqual(writers(self.hand, self.written), [1, 1, 3, 1, 2, 2, 2, 2])

    def test_in_the_bin(self):
        self.assertEqual(text(self.hand, (0, 6)), "dropped")
        self.assertEqual(signs(self.hand, (0, 6)), [(0, 11, k) for k in range(7)])
        self.assertEqual(writers(self.hand, (0, 6)), [0] * 7)

    def test_no_text(self):
        for item in [(0, 2), (0, 5), (0, 8)]:
            self.assertEqual(text(self.hand, item), "")
            self.assertEqual(signs(self.hand, item), [])
            self.assertEqual(writers(self.hand, item), [])

    def test_all_cut(self):
        take(self.hand, [(5, 1, 60, ("cut", (0, 4), (0, 10, 0), 16))])
        self.assertEqual(text(self.hand, (0, 4)), "")
        self.assertEqual(signs(self.hand, (0, 4)), [])
        self.assertEqual(writers(self.hand, (0, 4)), [])

    def test_an_undone_write_and_an_undone_cut(self):
        take(self.hand, [(5, 1, 60, ("undo", (1, 2))), (5, 2, 61, ("undo", (2, 1)))])
        self.assertEqual(text(self.hand, self.written), "heYllo")
        self.assertEqual(writers(self.hand, self.written), [1, 1, 3, 1, 1, 1])

    def test_every_sign(self):
        row = "".join(chr(k) for k in range(32, 127) if k != 37)
        hand = hand_with_deeds(ROOT_PUT, *[("write", (0, 1), None, row[k:k + 16]) for k in range(80, -1, -16)])
        self.assertEqual(text(hand, (0, 1)), row)
        self.assertEqual(shown(hand), [row])

    def test_of_what_is_no_item(self):
        for ask in [text, signs, writers]:
            for name in ["root", "bin", (0, 7)] + MISSING:
                self.assert_not_there(ask, name)

    def test_the_lists_are_new(self):
        self.assert_new_lists(signs, self.written)
        self.assert_new_lists(writers, self.written)


class Numbers(Asking):
    def test_at_each_place(self):
        take(self.hand, [
            (1, 1, 50, ("set", (0, 1), 0, 5)), (1, 2, 51, ("set", (0, 1), 3, -MOST)), (1, 3, 52, ("set", (0, 1), 1, 4)),
            (1, 4, 53, ("set", (0, 1), 1, 0)),
        ])
        self.assertEqual([number(self.hand, (0, 1), place) for place in range(4)], [5, 0, 0, -MOST])

    def test_noughts_at_first(self):
        self.assertEqual([number(self.hand, (0, 2), place) for place in range(4)], [0, 0, 0, 0])

    def test_in_the_bin(self):
        self.assertEqual([number(self.hand, (0, 6), place) for place in range(4)], [0, 0, 0, -7])

    def test_at_places_that_are_not_there(self):
        for place in [-1, -4, -5, 4, 5, 16, 400, MOST, -MOST]:
            self.assert_not_there(number, (0, 1), place)
            self.assert_not_there(number, (0, 6), place)

    def test_of_what_is_no_item(self):
        for name in ["root", "bin", (0, 7)] + MISSING:
            for place in [-1, 0, 3, 4]:
                self.assert_not_there(number, name, place)


class Undone(Asking):
    def test_of_every_kind(self):
        hand = hand_with_deeds(
            ROOT_PUT, ("move", (0, 1), "bin", None), ("drop", (0, 1)), ("write", (0, 1), None, "a"),
            ("cut", (0, 1), (0, 4, 0), 1), ("set", (0, 1), 0, 1),
        )
        for k in range(1, 7):
            self.assertIs(is_undone(hand, (0, k)), False)
            take(hand, [(1, k, 50 + k, ("undo", (0, k)))])
            self.assertIs(is_undone(hand, (0, k)), True)
        for k in range(1, 7):
            take(hand, [(2, k, 70 + k, ("redo", (0, k)))])
            self.assertIs(is_undone(hand, (0, k)), False)

    def test_the_last_in_the_order_counts(self):
        hand = hand_with((0, 1, 1, ROOT_PUT), (2, 1, 5, ("redo", (0, 1))), (1, 1, 4, ("undo", (0, 1))))
        self.assertIs(is_undone(hand, (0, 1)), False)
        take(hand, [(3, 1, 5, ("undo", (0, 1)))])
        self.assertIs(is_undone(hand, (0, 1)), True)
        take(hand, [(1, 2, 5, ("redo", (0, 1)))])
        self.assertIs(is_undone(hand, (0, 1)), True)

    def test_an_undo_ahead_of_what_it_names(self):
        hand = hand_with((1, 1, 1, ("undo", (0, 1))))
        with self.assertRaises(NotThere):
            is_undone(hand, (0, 1))
        take(hand, [(0, 1, 9, ROOT_PUT)])
        self.assertIs(is_undone(hand, (0, 1)), True)

    def test_undos_and_redos_are_not_told_of(self):
        take(self.hand, [(1, 1, 50, ("redo", (0, 7))), (1, 2, 51, ("undo", (1, 1))), (1, 3, 52, ("undo", (0, 9)))])
        for name in [(0, 9), (1, 1), (1, 2), (1, 3)]:
            self.assert_not_there(is_undone, name)

    def test_of_what_was_not_taken(self):
        take(self.hand, [(1, 2, 50, ROOT_PUT), (2, 1, 50, ("undo", (0, 13)))])
        for name in MISSING + [(1, 1), (1, 2), (0, 13)]:
            self.assert_not_there(is_undone, name)

    def test_deeds_that_do_nothing_may_be_undone_too(self):
        hand = hand_with_deeds(("drop", (5, 5)), ("undo", (0, 1)), ("move", "root", "bin", None))
        self.assertIs(is_undone(hand, (0, 1)), True)
        self.assertIs(is_undone(hand, (0, 3)), False)


class Pages(Asking):
    def test_each_ahead_of_its_children(self):
        self.assertEqual(pages(self.hand, "root"), [
            (0, "root"), (1, (0, 1)), (2, (0, 3)), (2, (0, 2)), (3, (0, 4)),
        ])
        self.assertEqual(pages(self.hand, "bin"), [(0, "bin"), (1, (0, 8)), (1, (0, 5)), (2, (0, 6))])

    def test_of_an_item(self):
        self.assertEqual(pages(self.hand, (0, 1)), [(0, (0, 1)), (1, (0, 3)), (1, (0, 2)), (2, (0, 4))])
        self.assertEqual(pages(self.hand, (0, 4)), [(0, (0, 4))])
        self.assertEqual(pages(self.hand, (0, 5)), [(0, (0, 5)), (1, (0, 6))])

    def test_they_are_tuples(self):
        for page in pages(self.hand, "root"):
            self.assertIsInstance(page, tuple)

    def test_of_a_new_hand(self):
        self.assertEqual(pages(Hand(0), "root"), [(0, "root")])
        self.assertEqual(pages(Hand(0), "bin"), [(0, "bin")])

    def test_of_what_is_not_there(self):
        for name in [(0, 7)] + MISSING:
            self.assert_not_there(pages, name)

    def test_the_list_is_new(self):
        self.assert_new_lists(pages, "root")
        self.assert_new_lists(pages, (0, 1))

    def test_a_very_deep_outline(self):
        deep = Hand(0)
        above = "root"
        names = []
        for k in range(400):
            above = put(deep, above, None)
            names.append(above)
        take(deep, [(1, k, 500 + k, ("put", (0, 400) if k == 1 else (1, k - 1), None)) for k in range(1, 3001)])
        names += [(1, k) for k in range(1, 3001)]
        self.assertEqual(pages(deep, "root"), [(0, "root")] + list(enumerate(names, start=1)))
        self.assertEqual(shown(deep), [" " * k for k in range(3400)])


class Lines(Asking):
    def test_a_new_hand_has_none(self):
        self.assertEqual(shown(Hand(0)), [])

    def test_depths_and_an_item_with_no_text(self):
        take(self.hand, [(1, 1, 50, ("write", (0, 1), None, "top")), (1, 2, 51, ("write", (0, 3), None, " x "))])
        self.assertEqual(shown(self.hand), ["top", "  x ", " ", "  deep"])

    def test_numbers(self):
        hand = hand_with_deeds(
            ROOT_PUT, ("put", "root", (0, 1)), ("put", (0, 2), None), ("write", (0, 1), None, "one"),
            ("write", (0, 3), None, "three"), ("set", (0, 1), 3, 12), ("set", (0, 1), 0, -4), ("set", (0, 1), 2, 0),
            ("set", (0, 3), 1, MOST), ("set", (0, 2), 2, 7), ("set", (0, 2), 3, 1), ("set", (0, 2), 3, 0),
        )
        self.assertEqual(shown(hand), ["one [0=-4] [3=12]", " [2=7]", f" three [1={MOST}]"])

    def test_all_four_numbers(self):
        hand = hand_with_deeds(ROOT_PUT, *[("set", (0, 1), place, 5 - place) for place in [2, 0, 3, 1]])
        self.assertEqual(shown(hand), [" [0=5] [1=4] [2=3] [3=2]"])

    def test_the_bin_is_not_among_them(self):
        take(self.hand, [(1, 1, 50, ("drop", (0, 1)))])
        self.assertEqual(shown(self.hand), [])
        take(self.hand, [(1, 2, 51, ("undo", (1, 1)))])
        self.assertEqual(len(shown(self.hand)), 4)

    def test_what_waits_is_not_shown(self):
        before = shown(self.hand)
        take(self.hand, [(1, 2, 50, ("write", (0, 1), None, "late"))])
        self.assertEqual(shown(self.hand), before)

    def test_the_list_is_new(self):
        self.assert_new_lists(shown)


class Sessions(Asking):
    def test_all_that_a_plain_telling_comes_to(self):
        for seed in range(12):
            operations = session(seed, 4, 20)
            with self.subTest(seed=seed):
                self.compare(hand_with(*operations), Plain(operations), operations)

    def compare(self, hand, plain, operations):
        for operation in operations:
            item = operation[:2]
            self.assertEqual(there(hand, item), item in plain.texts)
            if item in plain.texts:
                shown_signs = [sign for sign in plain.texts[item] if sign[2]]
                self.assertEqual(parent(hand, item), plain.parent(item))
                self.assertEqual(text(hand, item), "".join(sign[1] for sign in shown_signs))
                self.assertEqual(signs(hand, item), [sign[0] for sign in shown_signs])
                self.assertEqual(writers(hand, item), [sign[0][0] for sign in shown_signs])
                self.assertEqual([number(hand, item, place) for place in range(4)], plain.numbers[item])
            if operation[3][0] not in ("undo", "redo"):
                self.assertEqual(is_undone(hand, item), item in plain_undone(operations))
        for name in plain.children:
            self.assertEqual(children(hand, name), plain.children[name])
            self.assertEqual(pages(hand, name), self.plain_pages(plain, name, 0))

    def plain_pages(self, plain, name, depth):
        found = [(depth, name)]
        for child in plain.children[name]:
            found += self.plain_pages(plain, child, depth + 1)
        return found


if __name__ == "__main__":
    unittest.main()
