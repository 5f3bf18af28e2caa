"""[6.1]: a hand as lines, the hand that lines tell, and the first line that is wrong."""

import itertools
import random
import unittest

from manyhands.asking import shown
from manyhands.errors import HandsError, NoSave
from manyhands.hands import Hand, give, take
from manyhands.lines import shown as line_of
from manyhands.ours import cut, drop, place, put, redo, undo, write
from manyhands.saves import loaded, saved
from samples import LINES, MOST, NINES, OPERATIONS
from sessions import worked
from views import state

PUT = ("put", "root", None)

# A hand with own operations, with others' and with some that wait.
GOOD = [
    "hand 3", "3 1 1 put root -", "1 1 2 put root -", "3 2 5 write 3.1 - ab", "1 2 6 set 1.1 0 -4",
    "waits 2 4 9 put root -", "waits 1 7 30 drop 1.1", "waits 1 5 20 drop 3.1",
]


def put_line(hand, number, time=None):
    return line_of((hand, number, number if time is None else time, PUT))


def waits_line(hand, number, time=None):
    return "waits " + put_line(hand, number, time)


class Saves(unittest.TestCase):
    def assert_same(self, one, other):
        """Both have, show and keep waiting the same, and save the same."""
        self.assertEqual(state(one), state(other))
        self.assertEqual(saved(one), saved(other))

    def assert_wrong(self, lines, line):
        with self.subTest(lines=lines):
            before = list(lines)
            with self.assertRaises(NoSave) as refused:
                loaded(lines)
            self.assertEqual(refused.exception.line, line)
            self.assertEqual(lines, before)

    def assert_wrong_at(self, wrong, *places):
        """The line is wrong in GOOD, put in behind so many lines."""
        for at in places:
            self.assert_wrong(GOOD[:at] + [wrong] + GOOD[at:], at + 1)

    def assert_good(self, lines):
        with self.subTest(lines=lines):
            self.assertEqual(sorted(saved(loaded(lines))), sorted(lines))


class Saved(Saves):
    def test_a_new_hand(self):
        for ours in range(16):
            self.assertEqual(saved(Hand(ours)), [f"hand {ours}"])

    def test_own_operations(self):
        hand = Hand(12)
        put(hand, "root", None)
        write(hand, (12, 1), 0, " a long text, in two ")
        cut(hand, (12, 1), 2, 1)
        place(hand, (12, 1), 3, -5)
        undo(hand)
        self.assertEqual(saved(hand), [
            "hand 12", "12 1 1 put root -", "12 2 2 write 12.1 -  a long text, in", "12 3 3 write 12.1 12.2.15  two ",
            "12 4 4 cut 12.1 12.2.2 1", "12 5 5 set 12.1 3 -5", "12 6 6 undo 12.5",
        ])

    def test_those_taken_in_the_order_and_those_that_wait_as_they_came(self):
        hand = Hand(3)
        put(hand, "root", None)
        take(hand, [(2, 4, 9, PUT), (1, 7, 30, ("drop", (1, 1))), (1, 1, 2, PUT), (1, 5, 20, ("drop", (3, 1)))])
        take(hand, [(4, 1, 4, PUT)])
        write(hand, (3, 1), 0, "ab")
        take(hand, [(1, 2, 6, ("set", (1, 1), 0, -4))])
        self.assertEqual(saved(hand), GOOD[:3] + ["4 1 4 put root -"] + GOOD[3:])

    def test_of_equal_times_the_lower_hand_first(self):
        hand = Hand(3)
        take(hand, [(5, 1, 7, PUT), (1, 1, 7, PUT), (2, 1, 6, PUT)])
        put(hand, "root", None)
        take(hand, [(1, 2, 8, PUT), (9, 1, 8, PUT)])
        self.assertEqual(saved(hand)[1:], [
            "2 1 6 put root -", "1 1 7 put root -", "5 1 7 put root -", "1 2 8 put root -", "3 1 8 put root -",
            "9 1 8 put root -",
        ])

    def test_every_kind_of_line(self):
        hand = Hand(0)
        take(hand, [(1, k, k, operation[3]) for k, operation in enumerate(OPERATIONS, start=1)])
        ends = [line.split(" ", 3)[3] for line in LINES]
        self.assertEqual(saved(hand)[1:], [f"1 {k} {k} {end}" for k, end in enumerate(ends, start=1)])
        self.assert_same(loaded(saved(hand)), hand)

    def test_the_list_is_new_and_nothing_is_changed(self):
        hand = loaded(GOOD)
        before = state(hand)
        lines = saved(hand)
        lines.clear()
        self.assertEqual(saved(hand), GOOD)
        self.assertEqual(state(hand), before)


class Loaded(Saves):
    def test_new_hands(self):
        for ours in range(16):
            self.assert_same(loaded([f"hand {ours}"]), Hand(ours))

    def test_with_operations_of_several_hands_and_some_that_wait(self):
        hand = loaded(GOOD)
        self.assertEqual(hand.ours, 3)
        self.assertEqual([hand.have(other) for other in range(5)], [0, 2, 0, 2, 0])
        self.assertEqual(shown(hand), [" [0=-4]", "ab"])
        self.assertEqual(saved(hand), GOOD)

    def test_it_goes_on_as_the_hand_would(self):
        hand = loaded(GOOD)
        self.assertEqual(put(hand, "root", None), (3, 3))
        self.assertEqual(give(hand, [0] * 16)[-1], (3, 3, 7, PUT))
        self.assertEqual(take(hand, [(1, 3, 15, PUT), (1, 4, 16, PUT)]), 3)
        self.assertEqual([hand.have(other) for other in range(5)], [0, 5, 0, 3, 0])
        self.assertEqual(undo(hand), (3, 4))
        self.assertEqual(redo(hand), (3, 5))
        self.assertEqual(drop(hand, (3, 3)), (3, 6))

    def test_the_lines_are_not_changed_or_kept(self):
        lines = list(GOOD)
        hand = loaded(lines)
        self.assertEqual(lines, GOOD)
        before = state(hand)
        lines.clear()
        self.assertEqual(state(hand), before)

    def test_each_loading_is_a_new_hand(self):
        one, other = loaded(GOOD), loaded(GOOD)
        put(one, "root", None)
        take(one, [(2, 9, 90, PUT)])
        self.assertEqual(saved(other), GOOD)

    def test_the_order_between_hands_is_not_looked_at(self):
        taken = [["3 1 1 put root -", "3 2 5 write 3.1 - ab"], ["1 1 2 put root -", "1 2 6 set 1.1 0 -4"],
                 ["5 1 4 drop 3.1"]]
        expected = loaded(["hand 3"] + taken[0] + taken[1] + taken[2])
        for order in set(itertools.permutations([0, 0, 1, 1, 2])):
            rows = [list(row) for row in taken]
            hand = loaded(["hand 3"] + [rows[k].pop(0) for k in order])
            self.assert_same(hand, expected)

    def test_times_of_other_hands_say_nothing(self):
        self.assert_good(["hand 0", put_line(0, 1, 50), put_line(1, 1, 50), put_line(2, 1, 1), put_line(2, 2, 50)])

    def test_eight_that_wait(self):
        lines = ["hand 0"] + [waits_line(1, number) for number in [9, 2, 8, 3, 7, 4, 6, 5]]
        hand = loaded(lines)
        self.assertEqual(saved(hand), lines)
        self.assertEqual(take(hand, [(1, 1, 1, PUT)]), 9)

    def test_great_numbers(self):
        self.assert_good(["hand 0", f"1 1 {NINES} put root -", f"waits 2 {NINES} {NINES} set 2.1 1 -{NINES}"])
        self.assert_good(["hand 0", put_line(1, 1, MOST - 2), waits_line(1, 3, MOST - 1), waits_line(1, MOST, MOST)])

    def test_more_than_400(self):
        lines = ["hand 0"] + [put_line(1, number) for number in range(1, 451)]
        self.assertEqual(saved(loaded(lines)), lines)

    def test_sessions(self):
        for seed in range(6):
            for hand in worked(seed, 4, 120):
                hand = self.with_some_that_wait(seed, hand)
                again = loaded(saved(hand))
                self.assert_same(again, hand)
                self.assertEqual(shown(again), shown(hand))

    def with_some_that_wait(self, seed, hand):
        chance = random.Random(seed)
        for k in range(12):
            other = chance.choice([12, 13])
            number = chance.randrange(1, 9)
            take(hand, [(other, number, 10 * number, PUT)])
        return hand


class Wrong(Saves):
    def test_it_is_a_hands_error(self):
        with self.assertRaises(HandsError):
            loaded(["hand"])

    def test_no_lines_at_all(self):
        self.assert_wrong([], 1)

    def test_the_first_line(self):
        for first in [
            "", " ", "hand", "hand ", "hand 16", "hand 17", "hand -1", "hand -0", "hand 00", "hand 03", "hand +3",
            "hand 3 ", " hand 3", "hand  3", "hand 3 4", "Hand 3", "hand a", "hand 1_0", "hand 3.0", "hand -", "3",
            "hands 3", "hand\t3", "hand 3\n", "hand " + NINES, "3 1 1 put root -", "waits 1 2 3 put root -", "waits",
        ]:
            self.assert_wrong([first], 1)
            self.assert_wrong([first] + GOOD[1:], 1)
            self.assert_wrong([first] + GOOD, 1)
            self.assert_wrong([first, "nothing"], 1)

    def test_lines_that_write_no_operation(self):
        for wrong in ["", " ", "-", "hand 3", "hand 4", "waits", "waits ", "put", "root", "9", NINES]:
            self.assert_wrong_at(wrong, 1, 3, 5, 6, 8)
            self.assert_wrong_at("waits " + wrong, 1, 3, 5, 6, 8)

    def test_operations_that_are_written_otherwise_or_break_their_bounds(self):
        # The first would be the next of its hand, the second could wait, if only their ends were right.
        for ahead, behind, places in [("", "9 1 70 ", (1, 3, 5)), ("waits ", "9 2 70 ", (5, 6, 8))]:
            self.assert_good(GOOD[:places[-1]] + [ahead + behind + "put root -"])
            for end in [
                "", "put", "put root", "put root - -", "put root - ", " put root -", "put  root -", "put nowhere -",
                "put 03.1 -", "put root root", "put root -\n", "write 3.1 - ", "write 3.1 - seventeen signs!!",
                "write 3.1 - 5" + chr(37), "cut 3.1 3.2.1 16", "set 3.1 4 1", "set 3.1 -1 1", f"set 3.1 0 1{NINES}",
                "undo -", "undo root", "jump 3.1", "Put root -",
            ]:
                self.assert_wrong_at(ahead + behind + end, *places)
            # The last one would be hand 19.
            for begin in [" ", "0", "+", "-", "1"]:
                self.assert_wrong_at(ahead + begin + behind + "put root -", *places)
            for begin in ["9 0 70", "9 -1 70", "9 1 0", "9 1 07", "9 01 70", "16 1 70", f"9 1 1{NINES}", "9.1 70"]:
                self.assert_wrong_at(ahead + begin + " put root -", *places)

    def test_wrong_ways_of_waiting(self):
        line = put_line(9, 4)
        self.assert_good(GOOD + ["waits " + line])
        for wrong in ["waits" + line, "waits  " + line, " waits " + line, "Waits " + line, "wait " + line,
                      "waits waits " + line, line + " waits", "waits hand 3", "waits\t" + line]:
            self.assert_wrong_at(wrong, 1, 5, 6, 8)

    def test_not_the_next_of_its_hand(self):
        for wrong in [put_line(9, 2), put_line(9, 3), put_line(0, 400), put_line(9, MOST)]:
            self.assert_wrong_at(wrong, 1, 2, 5)
        for wrong in [put_line(3, 2, 5), put_line(1, 2, 5)]:
            self.assert_wrong_at(wrong, 1)
        for wrong in [put_line(3, 4, 50), put_line(1, 4, 50), put_line(1, 5, 50)]:
            self.assert_wrong_at(wrong, 2, 5)

    def test_the_first_of_a_hand_is_missing(self):
        self.assert_wrong(GOOD[:1] + GOOD[2:], 3)
        self.assert_wrong(GOOD[:2] + GOOD[3:], 4)

    def test_one_that_stands_there_already(self):
        for at in range(1, 5):
            for behind in range(at, 5):
                self.assert_wrong_at(GOOD[at], behind + 1)

    def test_unlike_one_ahead_of_it(self):
        self.assert_wrong_at("3 1 1 put bin -", 2, 5)
        self.assert_wrong_at("3 1 4 put root -", 2, 3)
        self.assert_wrong_at("1 2 6 set 1.1 0 4", 5)
        self.assert_wrong_at("1 2 9 set 1.1 0 -4", 5)
        self.assert_wrong_at("waits 1 5 20 drop 1.1", 8)
        self.assert_wrong_at("waits 1 7 31 drop 1.1", 7, 8)

    def test_out_of_the_order_of_times(self):
        for time in [1, 4, 5]:
            self.assert_wrong_at(put_line(3, 3, time), 5)
            self.assert_wrong(["hand 3", put_line(2, 1, 5), put_line(2, 2, time)], 3)
            self.assert_wrong(["hand 3", put_line(2, 1, 5), put_line(2, 2, time), put_line(4, 1)], 3)
        self.assert_good(["hand 3", put_line(2, 1, 5), put_line(2, 2, 6)])
        self.assert_good(["hand 3", put_line(3, 1, 5), put_line(3, 2, 6)])

    def test_times_of_those_that_wait(self):
        for number, time in [(4, 1), (4, 6), (4, 20), (4, 30), (6, 7), (6, 20), (6, 30), (8, 30), (400, 7)]:
            self.assert_wrong_at(waits_line(1, number, time), 8)
        for number, time in [(4, 7), (4, 19), (6, 21), (6, 29), (8, 31), (400, 31)]:
            self.assert_good(GOOD + [waits_line(1, number, time)])
        # At the first place that waits only those that were taken stand ahead of it.
        self.assert_wrong_at(waits_line(1, 4, 6), 5)
        self.assert_wrong_at(waits_line(1, 4, 5), 5)

    def test_one_that_waits_makes_a_later_one_wrong(self):
        self.assert_wrong(GOOD[:5] + [waits_line(1, 6, 30)] + GOOD[5:], 8)
        self.assert_wrong(GOOD[:5] + [waits_line(1, 4, 20)] + GOOD[5:], 9)
        self.assert_wrong(GOOD[:5] + [waits_line(2, 4, 9)] + GOOD[5:], 7)

    def test_one_that_waits_but_is_the_next(self):
        for at in [5, 6, 8]:
            self.assert_wrong_at(waits_line(1, 3, 15), at)
            self.assert_wrong_at(waits_line(9, 1, 15), at)
        self.assert_wrong(["hand 0", waits_line(1, 1)], 2)
        self.assert_wrong(["hand 0", waits_line(1, 1), put_line(2, 1)], 2)

    def test_one_that_waits_but_was_taken(self):
        for line in GOOD[1:5]:
            self.assert_wrong_at("waits " + line, 5, 6, 8)
        self.assert_wrong_at("waits " + GOOD[1], 2)

    def test_one_that_waits_already(self):
        self.assert_wrong_at(GOOD[5], 6, 7, 8)
        self.assert_wrong_at(GOOD[7], 8)

    def test_one_that_waits_but_is_the_hands_own(self):
        for number in [1, 2, 3, 4, 400, MOST]:
            self.assert_wrong_at(waits_line(3, number, 50), 5, 6, 8)
        self.assert_wrong(["hand 3", waits_line(3, 2)], 2)

    def test_a_ninth_that_waits(self):
        lines = ["hand 0"] + [waits_line(hand, 2) for hand in range(1, 9)]
        self.assert_good(lines)
        self.assert_wrong(lines + [waits_line(9, 2)], 10)
        self.assert_wrong(lines + [waits_line(9, 2), waits_line(10, 2)], 10)
        self.assert_wrong(lines[:1] + [put_line(1, 1, 1)] + lines[2:] + [waits_line(9, 2), waits_line(9, 3)], 11)

    def test_one_that_does_not_wait_behind_one_that_does(self):
        for wrong in [put_line(3, 3, 50), put_line(9, 1), put_line(1, 3, 15)]:
            self.assert_good(GOOD[:5] + [wrong])
            self.assert_wrong_at(wrong, 6, 7, 8)

    def test_the_first_wrong_line_is_told(self):
        self.assert_wrong(GOOD + ["nothing", "nothing"], 9)
        self.assert_wrong(["hand 3", "nothing"] + GOOD, 2)
        self.assert_wrong(GOOD[:3] + [put_line(3, 9)] + GOOD[3:] + ["nothing"], 4)

    def test_every_line_twice(self):
        for at in range(len(GOOD)):
            self.assert_wrong(GOOD[:at + 1] + GOOD[at:], at + 2)


if __name__ == "__main__":
    unittest.main()
