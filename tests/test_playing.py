"""[2.1] to [2.3]: what operations come to, kind by kind, and which of them are undone."""

import copy
import itertools
import unittest

from manyhands.playing import played, undone
from samples import MOST
from sessions import session
from views import Plain, numbered, picture, plain_undone, tree

ROOT_PUT = ("put", "root", None)


class Played(unittest.TestCase):
    def assert_children(self, operations, name, expected):
        self.assertEqual(played(operations).children_of(name), expected)

    def assert_does_nothing(self, operations, deed):
        """The deed, coming last, changes nothing of what the operations come to."""
        last = (1, 1, 1000, deed)
        with self.subTest(deed=deed):
            self.assertEqual(picture(played(operations + [last])), picture(played(operations)))

    def assert_text(self, operations, item, text):
        self.assertEqual(played(operations).text_of(item), text)


class Start(Played):
    def test_at_first_there_are_the_root_and_the_bin(self):
        outline = played([])
        self.assertTrue(outline.has("root"))
        self.assertTrue(outline.has("bin"))
        self.assertFalse(outline.has_item("root"))
        self.assertFalse(outline.has_item("bin"))
        self.assertFalse(outline.has((0, 1)))
        self.assertEqual(picture(outline), {"root": [], "bin": []})
        self.assertIsNone(outline.parent_of("root"))
        self.assertIsNone(outline.parent_of("bin"))

    def test_each_playing_is_a_new_outline(self):
        first = played(numbered(ROOT_PUT))
        self.assertEqual(played([]).children_of("root"), [])
        self.assertEqual(first.children_of("root"), [(0, 1)])


class Put(Played):
    def test_a_new_item_has_no_text_and_numbers_0(self):
        outline = played(numbered(ROOT_PUT))
        self.assertEqual(picture(outline), {
            "root": [(0, 1)], "bin": [], (0, 1): ("root", [], [], "", [0, 0, 0, 0]),
        })
        self.assertTrue(outline.has((0, 1)))
        self.assertTrue(outline.has_item((0, 1)))

    def test_without_a_sibling_ahead_of_all(self):
        self.assert_children(numbered(ROOT_PUT, ROOT_PUT, ROOT_PUT), "root", [(0, 3), (0, 2), (0, 1)])

    def test_right_behind_the_sibling(self):
        operations = numbered(ROOT_PUT, ("put", "root", (0, 1)), ("put", "root", (0, 1)), ("put", "root", (0, 2)))
        self.assert_children(operations, "root", [(0, 1), (0, 3), (0, 2), (0, 4)])

    def test_below_an_item(self):
        operations = numbered(ROOT_PUT, ("put", (0, 1), None), ("put", (0, 2), None), ("put", (0, 1), (0, 2)))
        self.assertEqual(tree(played(operations), "root"), [((0, 1), [((0, 2), [((0, 3), [])]), ((0, 4), [])])])

    def test_into_the_bin(self):
        operations = numbered(("put", "bin", None), ("put", "bin", (0, 1)), ("put", "bin", None), ("put", (0, 2), None))
        outline = played(operations)
        self.assertEqual(tree(outline, "bin"), [((0, 3), []), ((0, 1), []), ((0, 2), [((0, 4), [])])])
        self.assertEqual(outline.children_of("root"), [])
        self.assertEqual(outline.parent_of((0, 1)), "bin")

    def test_a_sibling_that_is_no_child_of_the_parent_then(self):
        operations = numbered(ROOT_PUT, ("put", "root", (0, 1)), ("put", (0, 1), None))
        for sibling in [(0, 3), (0, 4), (9, 9), (1, 1)]:
            with self.subTest(sibling=sibling):
                outline = played(operations + [(1, 1, 50, ("put", "root", sibling))])
                self.assertEqual(outline.children_of("root"), [(1, 1), (0, 1), (0, 2)])

    def test_a_sibling_that_came_or_left_at_another_time(self):
        later = numbered(ROOT_PUT, ("put", "root", (0, 3)), ("put", "root", (0, 1)))
        self.assert_children(later, "root", [(0, 2), (0, 1), (0, 3)])
        gone = numbered(ROOT_PUT, ("put", "root", (0, 1)), ("drop", (0, 2)), ("put", "root", (0, 2)))
        self.assert_children(gone, "root", [(0, 4), (0, 1)])

    def test_a_parent_that_is_not_there(self):
        for parent in [(9, 9), (1, 1), (1, 2)]:
            with self.subTest(parent=parent):
                operations = [(1, 1, 1, ("put", parent, None)), (1, 2, 2, ROOT_PUT)]
                outline = played(operations)
                self.assertEqual(outline.children_of("bin"), [(1, 1)])
                self.assertEqual(outline.children_of("root"), [(1, 2)])
                self.assertEqual(outline.parent_of((1, 1)), "bin")

    def test_what_goes_to_the_bin_goes_behind_a_sibling_there(self):
        operations = numbered(("put", "bin", None), ("put", "bin", (0, 1)), ROOT_PUT, ("put", (9, 9), (0, 1)))
        self.assert_children(operations, "bin", [(0, 1), (0, 4), (0, 2)])
        operations = numbered(("put", "bin", None), ("put", "bin", (0, 1)), ROOT_PUT, ("put", (9, 9), (0, 3)))
        self.assert_children(operations, "bin", [(0, 4), (0, 1), (0, 2)])

    def test_below_an_item_in_the_bin(self):
        operations = numbered(ROOT_PUT, ("drop", (0, 1)), ("put", (0, 1), None))
        self.assertEqual(tree(played(operations), "bin"), [((0, 1), [((0, 3), [])])])


class Move(Played):
    def setUp(self):
        # root: 1 (4 (5), 6), 2, 3; bin: 7
        self.start = numbered(
            ROOT_PUT, ("put", "root", (0, 1)), ("put", "root", (0, 2)), ("put", (0, 1), None), ("put", (0, 4), None),
            ("put", (0, 1), (0, 4)), ("put", "bin", None),
        )

    def moved(self, *deeds):
        return played(self.start + [(1, k, 100 + k, deed) for k, deed in enumerate(deeds, start=1)])

    def test_the_start(self):
        outline = self.moved()
        self.assertEqual(tree(outline, "root"), [
            ((0, 1), [((0, 4), [((0, 5), [])]), ((0, 6), [])]), ((0, 2), []), ((0, 3), []),
        ])
        self.assertEqual(outline.children_of("bin"), [(0, 7)])

    def test_to_another_parent_with_all_below(self):
        outline = self.moved(("move", (0, 1), (0, 3), None))
        self.assertEqual(tree(outline, "root"), [
            ((0, 2), []), ((0, 3), [((0, 1), [((0, 4), [((0, 5), [])]), ((0, 6), [])])]),
        ])
        self.assertEqual(outline.parent_of((0, 1)), (0, 3))
        self.assertEqual(outline.parent_of((0, 4)), (0, 1))

    def test_text_and_numbers_go_along(self):
        outline = self.moved(
            ("write", (0, 4), None, "tea"), ("set", (0, 4), 1, 5), ("cut", (0, 4), (1, 1, 0), 1),
            ("move", (0, 4), "root", None),
        )
        self.assertEqual(outline.text_of((0, 4)), "ea")
        self.assertEqual(outline.numbers_of((0, 4)), [0, 5, 0, 0])

    def test_among_the_same_children(self):
        for sibling, expected in [
            ((0, 1), [(0, 1), (0, 3), (0, 2)]), ((0, 2), [(0, 1), (0, 2), (0, 3)]), (None, [(0, 3), (0, 1), (0, 2)]),
            ((0, 3), [(0, 3), (0, 1), (0, 2)]), ((0, 4), [(0, 3), (0, 1), (0, 2)]), ((9, 9), [(0, 3), (0, 1), (0, 2)]),
        ]:
            with self.subTest(sibling=sibling):
                outline = self.moved(("move", (0, 3), "root", sibling))
                self.assertEqual(outline.children_of("root"), expected)

    def test_an_item_in_the_middle_is_taken_out_first(self):
        self.assertEqual(self.moved(("move", (0, 2), "root", (0, 2))).children_of("root"), [(0, 2), (0, 1), (0, 3)])
        self.assertEqual(self.moved(("move", (0, 2), "root", (0, 3))).children_of("root"), [(0, 1), (0, 3), (0, 2)])
        self.assertEqual(self.moved(("move", (0, 1), "root", (0, 3))).children_of("root"), [(0, 2), (0, 3), (0, 1)])
        self.assertEqual(self.moved(("move", (0, 2), (0, 1), (0, 4))).children_of("root"), [(0, 1), (0, 3)])

    def test_behind_a_sibling_of_the_new_parent(self):
        for sibling, expected in [
            ((0, 4), [(0, 4), (0, 2), (0, 6)]), ((0, 6), [(0, 4), (0, 6), (0, 2)]), (None, [(0, 2), (0, 4), (0, 6)]),
            ((0, 3), [(0, 2), (0, 4), (0, 6)]), ((0, 2), [(0, 2), (0, 4), (0, 6)]), ((0, 5), [(0, 2), (0, 4), (0, 6)]),
        ]:
            with self.subTest(sibling=sibling):
                outline = self.moved(("move", (0, 2), (0, 1), sibling))
                self.assertEqual(outline.children_of((0, 1)), expected)

    def test_to_the_bin_and_back(self):
        outline = self.moved(("move", (0, 1), "bin", (0, 7)))
        self.assertEqual(outline.children_of("bin"), [(0, 7), (0, 1)])
        self.assertEqual(outline.parent_of((0, 1)), "bin")
        outline = self.moved(("move", (0, 1), "bin", (0, 7)), ("move", (0, 1), "root", (0, 2)))
        self.assertEqual(outline.children_of("root"), [(0, 2), (0, 1), (0, 3)])
        self.assertEqual(outline.children_of("bin"), [(0, 7)])
        self.assertEqual(outline.children_of((0, 1)), [(0, 4), (0, 6)])

    def test_below_an_item_in_the_bin(self):
        outline = self.moved(("move", (0, 2), (0, 7), None))
        self.assertEqual(tree(outline, "bin"), [((0, 7), [((0, 2), [])])])

    def test_up_to_where_its_parent_stands(self):
        outline = self.moved(("move", (0, 5), "root", (0, 1)))
        self.assertEqual(outline.children_of("root"), [(0, 1), (0, 5), (0, 2), (0, 3)])
        outline = self.moved(("move", (0, 5), (0, 1), (0, 4)))
        self.assertEqual(outline.children_of((0, 1)), [(0, 4), (0, 5), (0, 6)])

    def test_the_root_and_the_bin_don_t_move(self):
        for item in ["root", "bin"]:
            for parent in ["root", "bin", (0, 1), (0, 7), (9, 9)]:
                for sibling in [None, (0, 1), (0, 7)]:
                    self.assert_does_nothing(self.start, ("move", item, parent, sibling))

    def test_not_below_itself(self):
        for parent in [(0, 1), (0, 4), (0, 5), (0, 6)]:
            for sibling in [None, (0, 1), (0, 4)]:
                self.assert_does_nothing(self.start, ("move", (0, 1), parent, sibling))

    def test_not_below_itself_in_the_bin_either(self):
        dropped = self.start + [(0, 8, 8, ("drop", (0, 1)))]
        self.assert_does_nothing(dropped, ("move", (0, 1), (0, 5), None))

    def test_what_is_not_there_doesn_t_move(self):
        for item, parent in [((9, 9), "root"), ((0, 1), (9, 9)), ((9, 9), (9, 9)), ((1, 1), "root"), ((0, 2), (1, 1))]:
            for sibling in [None, (0, 1), (9, 9)]:
                self.assert_does_nothing(self.start, ("move", item, parent, sibling))

    def test_ahead_of_the_put_nothing_moves(self):
        self.assert_children([(1, 1, 1, ("move", (0, 1), "bin", None)), (0, 1, 2, ROOT_PUT)], "root", [(0, 1)])
        operations = [(0, 1, 1, ROOT_PUT), (1, 1, 2, ("move", (0, 1), (0, 2), None)), (0, 2, 3, ROOT_PUT)]
        self.assert_children(operations, "root", [(0, 2), (0, 1)])

    def test_two_that_move_below_each_other_at_one_time(self):
        both = [(2, 1, 50, ("move", (0, 2), (0, 3), None)), (1, 1, 50, ("move", (0, 3), (0, 2), None))]
        outline = played(self.start + both)
        self.assertEqual(tree(outline, (0, 2)), [((0, 3), [])])
        self.assertEqual(outline.children_of("root"), [(0, 1), (0, 2)])


class Drop(Played):
    def test_to_the_bin_ahead_of_all(self):
        operations = numbered(
            ROOT_PUT, ("put", (0, 1), None), ROOT_PUT, ("put", "bin", None), ("drop", (0, 1)), ("drop", (0, 3)),
        )
        outline = played(operations)
        self.assertEqual(tree(outline, "bin"), [((0, 3), []), ((0, 1), [((0, 2), [])]), ((0, 4), [])])
        self.assertEqual(outline.children_of("root"), [])

    def test_what_lies_in_the_bin_goes_ahead_again(self):
        operations = numbered(("put", "bin", None), ("put", "bin", (0, 1)), ("drop", (0, 2)))
        self.assert_children(operations, "bin", [(0, 2), (0, 1)])

    def test_what_lies_below_an_item_in_the_bin(self):
        operations = numbered(("put", "bin", None), ("put", (0, 1), None), ("drop", (0, 2)))
        self.assertEqual(tree(played(operations), "bin"), [((0, 2), []), ((0, 1), [])])

    def test_nothing_else_is_dropped(self):
        start = numbered(ROOT_PUT, ("put", "bin", None))
        for item in ["root", "bin", (9, 9), (1, 1)]:
            self.assert_does_nothing(start, ("drop", item))

    def test_what_was_dropped_is_there(self):
        outline = played(numbered(
            ROOT_PUT, ("drop", (0, 1)), ("write", (0, 1), None, "ab"), ("cut", (0, 1), (0, 3, 0), 1),
            ("set", (0, 1), 0, 4), ("put", (0, 1), None),
        ))
        self.assertTrue(outline.has((0, 1)))
        self.assertEqual(outline.text_of((0, 1)), "b")
        self.assertEqual(outline.numbers_of((0, 1)), [4, 0, 0, 0])
        self.assertEqual(outline.children_of((0, 1)), [(0, 6)])


class Write(Played):
    def setUp(self):
        self.start = numbered(ROOT_PUT, ROOT_PUT, ("write", (0, 1), None, "abcd"), ("write", (0, 2), None, "xy"))

    def written(self, *deeds):
        return self.start + [(1, k, 100 + k, deed) for k, deed in enumerate(deeds, start=1)]

    def test_signs_have_their_names_in_their_order(self):
        outline = played(self.start)
        self.assertEqual(outline.text_of((0, 1)), "abcd")
        self.assertEqual(outline.signs_of((0, 1)), [(0, 3, 0), (0, 3, 1), (0, 3, 2), (0, 3, 3)])
        self.assertEqual(outline.text_of((0, 2)), "xy")

    def test_right_behind_a_sign(self):
        for k, expected in enumerate(["a12bcd", "ab12cd", "abc12d", "abcd12"]):
            self.assert_text(self.written(("write", (0, 1), (0, 3, k), "12")), (0, 1), expected)

    def test_at_the_beginning(self):
        # None; signs that stand nowhere; a sign of another text; signs of the writing operation itself
        for behind in [None, (0, 3, 4), (0, 3, 15), (9, 9, 0), (0, 1, 0), (0, 4, 0), (0, 4, 1), (1, 1, 0), (1, 1, 1)]:
            with self.subTest(behind=behind):
                self.assert_text(self.written(("write", (0, 1), behind, "12")), (0, 1), "12abcd")

    def test_behind_a_sign_that_is_cut(self):
        operations = self.written(("cut", (0, 1), (0, 3, 1), 2), ("write", (0, 1), (0, 3, 1), "12"))
        self.assert_text(operations, (0, 1), "a12d")
        operations = self.written(
            ("cut", (0, 1), (0, 3, 0), 4), ("write", (0, 1), (0, 3, 3), "2"), ("write", (0, 1), (0, 3, 0), "1"),
        )
        self.assert_text(operations, (0, 1), "12")

    def test_two_behind_the_same_sign(self):
        operations = self.start + [
            (1, 1, 50, ("write", (0, 1), (0, 3, 0), "12")), (2, 1, 50, ("write", (0, 1), (0, 3, 0), "34")),
        ]
        self.assert_text(operations, (0, 1), "a3412bcd")

    def test_into_the_middle_of_what_another_wrote(self):
        operations = self.written(("write", (0, 1), (0, 3, 3), "pq"), ("write", (0, 1), (1, 1, 0), "!"))
        self.assert_text(operations, (0, 1), "abcdp!q")
        self.assertEqual(played(operations).signs_of((0, 1))[4:], [(1, 1, 0), (1, 2, 0), (1, 1, 1)])

    def test_sixteen_signs_and_one(self):
        operations = numbered(ROOT_PUT, ("write", (0, 1), None, "0123456789abcdef"), ("write", (0, 1), (0, 2, 15), " "))
        outline = played(operations)
        self.assertEqual(outline.text_of((0, 1)), "0123456789abcdef ")
        self.assertEqual(outline.signs_of((0, 1)), [(0, 2, k) for k in range(16)] + [(0, 3, 0)])

    def test_into_what_is_no_item(self):
        for item in ["root", "bin", (9, 9), (0, 3), (1, 1)]:
            for behind in [None, (0, 3, 0)]:
                self.assert_does_nothing(self.start, ("write", item, behind, "12"))

    def test_ahead_of_the_put(self):
        self.assert_text([(1, 1, 1, ("write", (0, 1), None, "ab")), (0, 1, 2, ROOT_PUT)], (0, 1), "")


class Cut(Played):
    def setUp(self):
        self.start = numbered(
            ROOT_PUT, ROOT_PUT, ("write", (0, 1), None, "abcd"), ("write", (0, 2), None, "xyz"),
            ("write", (0, 1), (0, 3, 1), "12"),
        )

    def cut(self, *deeds):
        return self.start + [(1, k, 100 + k, deed) for k, deed in enumerate(deeds, start=1)]

    def test_so_many_from_first_on(self):
        self.assert_text(self.start, (0, 1), "ab12cd")
        for k, many, expected in [
            (0, 1, "b12cd"), (0, 2, "12cd"), (0, 4, "12"), (1, 2, "a12d"), (2, 1, "ab12d"), (3, 1, "ab12c"),
        ]:
            with self.subTest(k=k, many=many):
                self.assert_text(self.cut(("cut", (0, 1), (0, 3, k), many)), (0, 1), expected)

    def test_signs_of_first_s_operation_alone(self):
        outline = played(self.cut(("cut", (0, 1), (0, 3, 0), 3)))
        self.assertEqual(outline.signs_of((0, 1)), [(0, 5, 0), (0, 5, 1), (0, 3, 3)])
        self.assertEqual(outline.text_of((0, 2)), "xyz")

    def test_beyond_the_signs_of_the_operation(self):
        self.assert_text(self.cut(("cut", (0, 1), (0, 3, 2), 14)), (0, 1), "ab12")
        self.assert_text(self.cut(("cut", (0, 1), (0, 3, 0), 16)), (0, 1), "12")
        for k in [4, 15]:
            self.assert_does_nothing(self.start, ("cut", (0, 1), (0, 3, k), 1))

    def test_signs_that_are_cut_already(self):
        again = ("cut", (0, 1), (0, 3, 1), 2)
        self.assert_text(self.cut(again, again), (0, 1), "a12d")
        self.assert_text(self.cut(again, ("cut", (0, 1), (0, 3, 2), 2)), (0, 1), "a12")
        self.assert_does_nothing(self.cut(again), ("cut", (0, 1), (0, 3, 2), 1))

    def test_what_is_cut_keeps_its_place(self):
        operations = self.cut(
            ("cut", (0, 1), (0, 3, 0), 2), ("write", (0, 1), (0, 3, 1), "!"), ("write", (0, 1), (0, 3, 0), "?"),
            ("write", (0, 1), None, "<"),
        )
        self.assert_text(operations, (0, 1), "<?!12cd")

    def test_signs_that_stand_in_another_text_or_in_none(self):
        for first in [(0, 4, 0), (0, 1, 0), (9, 9, 0), (1, 1, 0)]:
            self.assert_does_nothing(self.start, ("cut", (0, 1), first, 3))
        self.assert_does_nothing(self.start, ("cut", (0, 2), (0, 3, 0), 4))

    def test_of_what_is_no_item(self):
        for item in ["root", "bin", (9, 9), (0, 3), (1, 1)]:
            self.assert_does_nothing(self.start, ("cut", item, (0, 3, 0), 4))

    def test_ahead_of_the_writing(self):
        operations = [(0, 1, 1, ROOT_PUT), (1, 1, 2, ("cut", (0, 1), (0, 2, 0), 2)),
                      (0, 2, 3, ("write", (0, 1), None, "ab"))]
        self.assert_text(operations, (0, 1), "ab")

    def test_all(self):
        operations = self.cut(("cut", (0, 1), (0, 3, 0), 4), ("cut", (0, 1), (0, 5, 0), 2))
        outline = played(operations)
        self.assertEqual(outline.text_of((0, 1)), "")
        self.assertEqual(outline.signs_of((0, 1)), [])


class SetNumber(Played):
    def setUp(self):
        self.start = numbered(ROOT_PUT, ROOT_PUT, ("set", (0, 1), 1, 7))

    def test_each_place(self):
        for place in range(4):
            outline = played(numbered(ROOT_PUT, ROOT_PUT, ("set", (0, 1), place, 7)))
            self.assertEqual(outline.numbers_of((0, 1)), [7 if k == place else 0 for k in range(4)])
            self.assertEqual(outline.numbers_of((0, 2)), [0, 0, 0, 0])

    def test_any_number(self):
        for number in [0, -1, 1, MOST, -MOST]:
            outline = played(numbered(ROOT_PUT, ("set", (0, 1), 0, 5), ("set", (0, 1), 0, number)))
            self.assertEqual(outline.numbers_of((0, 1)), [number, 0, 0, 0])

    def test_the_last_in_the_order_stays(self):
        operations = [(2, 1, 9, ("set", (0, 1), 3, 2)), (1, 1, 9, ("set", (0, 1), 3, 1)),
                      (3, 1, 8, ("set", (0, 1), 3, 3)), (0, 1, 1, ROOT_PUT)]
        for mixed in itertools.permutations(operations):
            self.assertEqual(played(list(mixed)).numbers_of((0, 1)), [0, 0, 0, 2])

    def test_of_what_is_no_item(self):
        for item in ["root", "bin", (9, 9), (0, 3), (1, 1)]:
            for place in [0, 3]:
                self.assert_does_nothing(self.start, ("set", item, place, 5))

    def test_ahead_of_the_put(self):
        outline = played([(1, 1, 1, ("set", (0, 1), 0, 5)), (0, 1, 2, ROOT_PUT)])
        self.assertEqual(outline.numbers_of((0, 1)), [0, 0, 0, 0])


class Undone(Played):
    def setUp(self):
        self.start = numbered(ROOT_PUT, ("put", "root", (0, 1)), ("write", (0, 1), None, "ab"), ("set", (0, 1), 0, 1))

    def with_times(self, *rows):
        """The start and undos or redos: rows of a hand, a time, a word, and the name that it names."""
        return self.start + [(hand, time, time, (word, name)) for hand, time, word, name in rows]

    def assert_undone(self, operations, names):
        self.assertEqual(sorted(undone(operations)), names)
        self.assertEqual(sorted(plain_undone(operations)), names)

    def test_none(self):
        self.assert_undone([], [])
        self.assert_undone(self.start, [])

    def test_an_undone_operation_is_left_out(self):
        operations = self.with_times((1, 9, "undo", (0, 4)))
        self.assert_undone(operations, [(0, 4)])
        self.assertEqual(picture(played(operations)), picture(played(self.start[:3])))

    def test_each_kind_can_be_undone(self):
        operations = self.start + [
            (0, 5, 5, ("cut", (0, 1), (0, 3, 0), 1)), (0, 6, 6, ("move", (0, 1), (0, 2), None)),
            (0, 7, 7, ("drop", (0, 2))), (0, 8, 8, ("put", (0, 2), None)),
        ]
        for k, operation in enumerate(operations):
            with self.subTest(operation=operation):
                undo = (1, 1, 20, ("undo", operation[:2]))
                self.assert_undone(operations + [undo], [operation[:2]])
                self.assertEqual(
                    picture(played(operations + [undo])), picture(played(operations[:k] + operations[k + 1:])),
                )
                redo = (1, 2, 21, ("redo", operation[:2]))
                self.assert_undone(operations + [undo, redo], [])
                self.assertEqual(picture(played(operations + [undo, redo])), picture(played(operations)))

    def test_a_redo_puts_an_operation_back_in_its_own_place_in_the_order(self):
        operations = self.with_times((1, 9, "undo", (0, 2)), (1, 10, "redo", (0, 2)))
        operations.append((2, 1, 5, ("put", "root", (0, 2))))
        self.assert_children(operations, "root", [(0, 1), (0, 2), (2, 1)])

    def test_the_last_one_in_the_order_tells(self):
        for words in itertools.product(["undo", "redo"], repeat=3):
            operations = self.with_times(*[(1, 10 + k, word, (0, 4)) for k, word in enumerate(words)])
            self.assert_undone(operations[::-1], [(0, 4)] if words[-1] == "undo" else [])

    def test_of_equal_times_the_higher_hand_tells(self):
        self.assert_undone(self.with_times((5, 9, "undo", (0, 4)), (3, 9, "redo", (0, 4))), [(0, 4)])
        self.assert_undone(self.with_times((3, 9, "undo", (0, 4)), (5, 9, "redo", (0, 4))), [])
        self.assert_undone(self.with_times((5, 9, "redo", (0, 4)), (3, 9, "undo", (0, 4))), [])

    def test_a_redo_alone_does_nothing(self):
        operations = self.with_times((1, 9, "redo", (0, 4)), (1, 10, "redo", (9, 9)))
        self.assert_undone(operations, [])
        self.assertEqual(picture(played(operations)), picture(played(self.start)))

    def test_an_undo_ahead_of_what_it_names(self):
        late = [(2, 1, 1, ("undo", (1, 1))), (1, 1, 30, ("set", (0, 1), 0, 9))]
        self.assert_undone(self.start + late, [(1, 1)])
        self.assertEqual(played(self.start + late).numbers_of((0, 1)), [1, 0, 0, 0])
        self.assert_undone(self.start + late + [(2, 2, 2, ("redo", (1, 1)))], [])
        self.assert_undone(self.start + late + [(3, 1, 40, ("redo", (1, 1)))], [])
        self.assert_undone(self.start + late + [(2, 2, 2, ("redo", (1, 1))), (3, 1, 40, ("undo", (1, 1)))], [(1, 1)])

    def test_an_undo_of_its_own_hand_ahead_of_what_it_names(self):
        operations = [(0, 1, 1, ("undo", (0, 2))), (0, 2, 2, ROOT_PUT)]
        self.assert_undone(operations, [(0, 2)])
        self.assertFalse(played(operations).has((0, 2)))

    def test_undos_and_redos_are_never_undone(self):
        operations = self.with_times((1, 9, "undo", (0, 4)), (2, 10, "undo", (1, 9)), (3, 11, "undo", (3, 11)))
        self.assert_undone(operations, [(0, 4)])
        operations = self.with_times((1, 9, "undo", (0, 4)), (1, 10, "redo", (0, 4)), (2, 11, "undo", (1, 10)))
        self.assert_undone(operations, [])

    def test_what_is_named_need_not_be_there(self):
        operations = self.with_times((1, 9, "undo", (9, 9)), (1, 10, "undo", (0, 5)))
        self.assert_undone(operations, [])
        self.assertEqual(picture(played(operations)), picture(played(self.start)))

    def test_other_deeds_that_name_an_item_are_no_undos(self):
        operations = self.with_times((1, 9, "undo", (0, 2))) + [(2, 1, 10, ("drop", (0, 2)))]
        self.assert_undone(operations, [(0, 2)])

    def test_an_undone_write_is_stood_behind_no_more(self):
        operations = self.with_times((1, 9, "undo", (0, 3))) + [
            (2, 1, 5, ("write", (0, 1), None, "12")), (2, 2, 6, ("write", (0, 1), (0, 3, 1), "34")),
            (2, 3, 7, ("cut", (0, 1), (0, 3, 0), 2)),
        ]
        self.assert_text(operations, (0, 1), "3412")


class UndonePut(Played):
    def setUp(self):
        # 1 is undone; below it 2 was put, below that 3; 4 moves below 1, and 5 is put behind 1.
        self.start = numbered(
            ROOT_PUT, ("put", (0, 1), None), ("put", (0, 2), None), ("put", "root", (0, 1)), ("put", "root", (0, 1)),
            ("move", (0, 4), (0, 1), None), ("write", (0, 1), None, "ab"), ("set", (0, 1), 0, 3), ("undo", (0, 1)),
        )

    def test_it_is_not_there_and_what_was_put_below_it_lies_in_the_bin(self):
        outline = played(self.start)
        self.assertFalse(outline.has((0, 1)))
        self.assertEqual(tree(outline, "bin"), [((0, 2), [((0, 3), [])])])
        self.assertEqual(outline.children_of("root"), [(0, 5), (0, 4)])

    def test_redone_all_is_as_it_was(self):
        again = self.start + [(1, 1, 50, ("redo", (0, 1)))]
        self.assertEqual(picture(played(again)), picture(played(self.start[:-1])))
        self.assertEqual(tree(played(again), "root"), [
            ((0, 1), [((0, 4), []), ((0, 2), [((0, 3), [])])]), ((0, 5), []),
        ])

    def test_from_its_put_on(self):
        for many in range(1, 5):
            outline = played(self.start[:many])
            self.assertEqual([outline.has((0, k)) for k in range(1, 6)], [k <= many for k in range(1, 6)])


class Whole(Played):
    def test_nothing_handed_in_is_changed_or_kept(self):
        operations = session(3, 4, 12)
        before = copy.deepcopy(operations)
        outline = played(operations)
        undone(operations)
        self.assertEqual(operations, before)
        shown = picture(outline)
        operations.clear()
        self.assertEqual(picture(outline), shown)

    def test_lists_that_are_given_are_new(self):
        outline = played(numbered(ROOT_PUT, ("put", (0, 1), None), ("write", (0, 1), None, "ab")))
        before = copy.deepcopy(picture(outline))
        for ask in [outline.children_of, outline.signs_of, outline.numbers_of]:
            ask((0, 1)).append(None)
            ask((0, 1)).clear()
        self.assertEqual(picture(outline), before)

    def test_the_list_s_own_order_says_nothing(self):
        operations = session(5, 3, 10)
        expected = picture(played(operations))
        self.assertEqual(picture(played(operations[::-1])), expected)
        self.assertEqual(picture(played(operations[7:] + operations[:7])), expected)

    def test_sessions_come_to_what_a_plain_playing_tells(self):
        for seed in range(150):
            operations = session(seed, 1 + seed % 6, 4 + seed % 25)
            with self.subTest(seed=seed):
                self.assertEqual(picture(played(operations)), Plain(operations).picture())
                self.assertEqual(sorted(undone(operations)), sorted(plain_undone(operations)))

    def test_an_item_that_lies_very_deep(self):
        operations = numbered(ROOT_PUT, *[("put", (0, k), None) for k in range(1, 3000)])
        operations.append((1, 1, 5000, ("move", (0, 1), (0, 3000), None)))
        operations.append((1, 2, 5001, ("move", (0, 3000), "root", (0, 1))))
        outline = played(operations)
        self.assertEqual(outline.children_of("root"), [(0, 1), (0, 3000)])
        self.assertEqual(outline.parent_of((0, 2999)), (0, 2998))


if __name__ == "__main__":
    unittest.main()
