"""[0.1], [0.3], [1.1] to [1.3] and the end of [3.1]: what an operation is, and the order."""

import copy
import itertools
import unittest

from manyhands.names import in_order, is_operation
from samples import MOST, OPERATIONS, changed, changed_tuples

# None of these may stand anywhere in an operation, nor for one.
NOWHERE = [
    True, False, "", (), [], [0, 1], [None], {}, (None,), ((),), ([],), ([], []), (0, [], 1),
    MOST + 1, -MOST - 1, "a text of far more than sixteen signs",
]

GOOD_NAMES = [(0, 1), (15, 1), (0, MOST), (7, 7)]
GOOD_SIGN_NAMES = [(0, 1, 0), (15, MOST, 15), (7, 7, 7)]
BAD_NAMES = [
    (16, 1), (-1, 1), (0, 0), (0, -1), (0, MOST + 1), (0,), (0, 1, 0, 0), [0, 1], (None, 1), (0, None),
    ("0", 1), (0, "1"), (True, 1), (False, 1), (0, True), ((0, 1), 1), (0, (1,)), "0.1", "Root", "roots", "-",
]
BAD_SIGN_NAMES = [
    (0, 1, 16), (0, 1, -1), (0, 1, True), (0, 1, False), (0, 1, None), (0, 1, "0"), (16, 1, 0), (-1, 1, 0),
    (0, 0, 0), (0, MOST + 1, 0), (True, 1, 0), (0, True, 0), [0, 1, 0], ((0, 1), 0), (0, 1, 0, 0), "0.1.0",
]


class Asked(unittest.TestCase):
    def assert_is(self, thing, expected):
        with self.subTest(thing=thing):
            self.assertIs(is_operation(thing), expected)

    def assert_deed(self, deed, expected):
        self.assert_is((0, 1, 1, deed), expected)

    def assert_slot(self, make, good, bad):
        for part in good:
            self.assert_deed(make(part), True)
        for part in bad:
            self.assert_deed(make(part), False)


class Operations(Asked):
    def test_the_samples_are_operations(self):
        for operation in OPERATIONS:
            self.assert_is(operation, True)

    def test_hands_are_0_to_15(self):
        for hand in range(16):
            self.assert_is((hand, 1, 1, ("put", "root", None)), True)
        for hand in [-1, 16, 17, 100, MOST, -MOST]:
            self.assert_is((hand, 1, 1, ("put", "root", None)), False)

    def test_numbers_and_times_are_from_1_on_of_sixty_figures(self):
        for good in [1, 2, 400, 401, MOST]:
            self.assert_is((0, good, 1, ("put", "root", None)), True)
            self.assert_is((0, 1, good, ("put", "root", None)), True)
        for bad in [0, -1, -MOST, MOST + 1, 10 ** 61, None, "1", (1,)]:
            self.assert_is((0, bad, 1, ("put", "root", None)), False)
            self.assert_is((0, 1, bad, ("put", "root", None)), False)

    def test_a_truth_is_no_number(self):
        deed = ("put", "root", None)
        for truth in [True, False]:
            self.assert_is((truth, 1, 1, deed), False)
            self.assert_is((0, truth, 1, deed), False)
            self.assert_is((0, 1, truth, deed), False)
            self.assert_is((0, 1, 1, truth), False)

    def test_what_stands_nowhere_makes_no_operation(self):
        for operation in OPERATIONS:
            for wrong in NOWHERE:
                for thing in changed(operation, lambda part: wrong):
                    self.assert_is(thing, False)

    def test_a_list_for_a_tuple_makes_no_operation(self):
        for operation in OPERATIONS:
            for thing in changed_tuples(operation, list):
                self.assert_is(thing, False)

    def test_a_part_more_or_less_makes_no_operation(self):
        changes = [lambda t: t[:-1], lambda t: t[1:], lambda t: t + (1,), lambda t: t + (None,), lambda t: (0,) + t,
                   lambda t: t + t, lambda t: (t,)]
        for operation in OPERATIONS:
            for change in changes:
                for thing in changed_tuples(operation, change):
                    self.assert_is(thing, False)


class AnyThing(Asked):
    def test_things_that_are_no_tuple(self):
        for thing in [None, True, False, 0, 1, -1, MOST, "", "put", "0 1 1 put root -", "abcd", [], [0, 1, 1, ()]]:
            self.assert_is(thing, False)

    def test_tuples_that_are_no_operation(self):
        for thing in [(), (None,), (0, 1), (0, 1, 1), (0, 1, 1, None), (0, 1, 1, ()), (0, 1, 1, "put"), (1, 2, 3, 4)]:
            self.assert_is(thing, False)

    def test_every_tuple_of_four_small_things_is_told_without_an_error(self):
        things = [None, True, 0, 1, "put", [], (), ["put"], ("put",), ("put", "root", None), ([], "root", None)]
        right = [
            thing for thing in itertools.product(things, repeat=4)
            if self.told(thing)
        ]
        self.assertEqual(right, [
            (hand, 1, 1, ("put", "root", None)) for hand in [0, 1]
        ])

    def told(self, thing):
        answer = is_operation(thing)
        self.assertIn(answer, [True, False])
        self.assertIsInstance(answer, bool)
        return answer

    def test_every_small_deed_is_told_without_an_error(self):
        parts = [None, True, 1, "root", "a", (0, 1), (0, 1, 2), [0, 1], []]
        words = ["put", "move", "drop", "write", "cut", "set", "undo", "redo", "", "PUT", None, 1, [], ["put"], ("put",)]
        found = {}
        for word in words:
            for many in range(5):
                for rest in itertools.product(parts, repeat=many):
                    if self.told((0, 1, 1, (word,) + rest)):
                        found[word] = found.get(word, 0) + 1
        # items: "root", (0, 1); siblings: None, (0, 1); behind: None, (0, 1, 2); texts: "root", "a"
        self.assertEqual(found, {
            "put": 2 * 2, "move": 2 * 2 * 2, "drop": 2, "write": 2 * 2 * 2, "cut": 2, "set": 2, "undo": 1, "redo": 1,
        })

    def test_deep_things(self):
        deep = ()
        deeper = []
        for k in range(5000):
            deep = (deep,)
            deeper = [deeper]
        for thing in [deep, (0, 1, 1, deep), (0, 1, 1, ("put", deep, deeper)), (deeper, deep, deeper, deep)]:
            self.assertIs(is_operation(thing), False)

    def test_what_is_asked_of_is_not_changed(self):
        thing = (0, 1, 1, ("put", [0, [1]], [["root"], None]))
        before = copy.deepcopy(thing)
        self.assertIs(is_operation(thing), False)
        self.assertEqual(thing, before)


class Deeds(Asked):
    def test_items(self):
        makers = [
            lambda item: ("put", item, None),
            lambda item: ("move", item, "root", None),
            lambda item: ("move", "root", item, None),
            lambda item: ("drop", item),
            lambda item: ("write", item, None, "a"),
            lambda item: ("cut", item, (0, 1, 0), 1),
            lambda item: ("set", item, 0, 0),
        ]
        for make in makers:
            self.assert_slot(make, GOOD_NAMES + ["root", "bin"], BAD_NAMES + GOOD_SIGN_NAMES + [None, 0, 1])

    def test_siblings(self):
        makers = [lambda sibling: ("put", "root", sibling), lambda sibling: ("move", (0, 1), "root", sibling)]
        for make in makers:
            self.assert_slot(make, GOOD_NAMES + [None], BAD_NAMES + GOOD_SIGN_NAMES + ["root", "bin", 0, 1])

    def test_behind(self):
        self.assert_slot(
            lambda behind: ("write", (0, 1), behind, "a"),
            GOOD_SIGN_NAMES + [None],
            BAD_SIGN_NAMES + GOOD_NAMES + BAD_NAMES + ["root", "bin", 0, 1],
        )

    def test_first(self):
        self.assert_slot(
            lambda first: ("cut", (0, 1), first, 1),
            GOOD_SIGN_NAMES,
            BAD_SIGN_NAMES + GOOD_NAMES + BAD_NAMES + [None, "root", "bin", 0, 1],
        )

    def test_what_is_undone_and_redone(self):
        for word in ["undo", "redo"]:
            self.assert_slot(
                lambda name: (word, name),
                GOOD_NAMES,
                BAD_NAMES + GOOD_SIGN_NAMES + [None, "root", "bin", 0, 1],
            )

    def test_what_is_named_need_not_be_there(self):
        self.assert_deed(("put", (0, 1), (0, 1)), True)
        self.assert_deed(("undo", (0, 1)), True)
        self.assert_deed(("move", (9, 9), (9, 9), (9, 9)), True)

    def test_texts(self):
        self.assert_slot(
            lambda text: ("write", (0, 1), None, text),
            ["a", " ", "~", " " * 16, "a" * 15, "a" * 16],
            ["", "a" * 17, " " * 17, None, 1, ("a",), ["a"], True],
        )

    def test_signs_are_those_from_the_blank_to_the_tilde_but_37(self):
        for k in range(256):
            expected = 32 <= k <= 126 and k != 37
            for text in [chr(k), "a" + chr(k), chr(k) + "a", "a" * 15 + chr(k)]:
                self.assert_deed(("write", (0, 1), None, text), expected)

    def test_many_with_firsts_last_part_is_16_at_most(self):
        for k in range(16):
            for many in range(-1, 19):
                self.assert_deed(("cut", (0, 1), (0, 1, k), many), many >= 1 and k + many <= 16)
        for many in [True, None, "1", (1,), MOST, -MOST]:
            self.assert_deed(("cut", (0, 1), (0, 1, 0), many), False)

    def test_places_are_0_to_3(self):
        self.assert_slot(
            lambda place: ("set", (0, 1), place, 5),
            [0, 1, 2, 3],
            [-1, 4, 5, MOST, True, False, None, "0", (0,)],
        )

    def test_any_whole_number_is_set(self):
        self.assert_slot(
            lambda number: ("set", (0, 1), 0, number),
            [0, 1, -1, 37, MOST, -MOST],
            [MOST + 1, -MOST - 1, True, False, None, "0", (0,), [0]],
        )

    def test_other_words_are_no_deeds(self):
        for word in ["", "Put", "put ", " put", "puts", "pu", "insert", "root", None, 0, True, ("put",), ["put"]]:
            for rest in [(), ("root",), ("root", None), ((0, 1),), ((0, 1), "root", None), ((0, 1), 0, 0)]:
                self.assert_deed((word,) + rest, False)


class Order(unittest.TestCase):
    def test_by_time(self):
        one, two, three = (5, 1, 1, ("drop", "bin")), (3, 7, 2, ("drop", "bin")), (4, 2, 10, ("drop", "bin"))
        for mixed in itertools.permutations([one, two, three]):
            self.assertEqual(in_order(list(mixed)), [one, two, three])

    def test_of_equal_times_the_lower_hand_first(self):
        # The numbers fall while the hands rise, so that an order by numbers would show.
        wanted = [(hand, 100 - hand, 5, ("drop", "bin")) for hand in range(16)]
        self.assertEqual(in_order(wanted[::-1]), wanted)
        self.assertEqual(in_order(wanted[8:] + wanted[:8]), wanted)

    def test_time_goes_ahead_of_the_hand(self):
        early, late = (15, 9, 1, ("undo", (0, 1))), (0, 1, 2, ("drop", "bin"))
        self.assertEqual(in_order([late, early]), [early, late])

    def test_deeds_of_other_forms_are_not_compared(self):
        operations = [(k, 1, 3, operation[3]) for k, operation in enumerate(OPERATIONS[:16])]
        self.assertEqual(in_order(operations[::-1]), operations)

    def test_great_times(self):
        early, late = (1, 1, MOST - 1, ("drop", "bin")), (0, 1, MOST, ("drop", "bin"))
        self.assertEqual(in_order([late, early]), [early, late])

    def test_nothing_is_left_out(self):
        again = (0, 1, 1, ("drop", "bin"))
        self.assertEqual(in_order([again, again]), [again, again])

    def test_a_new_list_and_the_old_one_unchanged(self):
        late, early = (0, 2, 2, ("drop", "bin")), (0, 1, 1, ("drop", "bin"))
        for given in [[late, early], [early, late], [early], []]:
            before = list(given)
            answer = in_order(given)
            self.assertIsInstance(answer, list)
            self.assertIsNot(answer, given)
            self.assertEqual(given, before)
            answer.append(None)
            self.assertEqual(given, before)
            self.assertEqual(in_order(given), sorted(before, key=lambda operation: operation[2]))


if __name__ == "__main__":
    unittest.main()
