"""[0.1] to [0.3] over the whole program: hands that work, tell one another, are saved, and in the end show the same."""

import random
import unittest

from manyhands.asking import children, pages, shown, signs, text
from manyhands.errors import NotThere
from manyhands.hands import Hand, give, outline_of, take
from manyhands.names import in_order, is_operation
from manyhands.ours import cut, put, redo, undo, write
from manyhands.saves import loaded, saved
from manyhands.sharing import lacks, met, told
from sessions import all_met, mixed, some_work, worked
from views import Plain, picture, plain_undone, state

NONE = [0] * 16


def plain_lines(plain, name, depth):
    """The outline's lines, over the plain telling."""
    lines = []
    for item in plain.children[name]:
        words = "".join(sign[1] for sign in plain.texts[item] if sign[2])
        tail = "".join(f" [{place}={number}]" for place, number in enumerate(plain.numbers[item]) if number != 0)
        lines += [" " * depth + words + tail] + plain_lines(plain, item, depth + 1)
    return lines


def cut_rows(found):
    """[5.2]: how many operations a cutting of these signs makes, over neighbours."""
    return sum(1 for one, other in zip([None] + found, found) if one is None or one[:2] + (one[2] + 1,) != other)


class Making(unittest.TestCase):
    def test_what_is_made_is_told_is_next_and_comes_last(self):
        for seed in range(8):
            chance = random.Random(seed)
            row = [Hand(ours) for ours in [0, 3, 15]]
            for step in range(90):
                hand = chance.choice(row)
                before = give(hand, NONE)
                time = max([operation[2] for operation in before], default=0)
                number = hand.have(hand.ours)
                names = some_work(chance, hand)
                after = give(hand, NONE)
                made = after[len(before):]
                self.assertEqual(after[:len(before)], before)
                self.assertEqual([operation[:3] for operation in made],
                                 [(hand.ours, number + k, time + k) for k in range(1, len(names) + 1)])
                self.assertEqual([operation[:2] for operation in made], names)
                self.assertTrue(all(is_operation(operation) for operation in made))
                if step % 7 == 0:
                    one, other = chance.sample(row, 2)
                    met(one, other)

    def test_texts_written_and_cut_step_by_step(self):
        for seed in range(10):
            chance = random.Random(seed)
            hand, other = Hand(1), Hand(2)
            item = put(hand, "root", None)
            met(hand, other)
            for step in range(40):
                one = chance.choice([hand, other])
                before = text(one, item)
                at, many = chance.randrange(len(before) + 1), chance.randrange(20)
                if chance.random() < 0.5:
                    words = "".join(chance.choice("abcdef") for k in range(many * 2))
                    self.assertEqual(len(write(one, item, at, words)), (len(words) + 15) // 16)
                    self.assertEqual(text(one, item), before[:at] + words + before[at:])
                elif at + many <= len(before):
                    rows = cut_rows(signs(one, item)[at:at + many])
                    self.assertEqual(len(cut(one, item, at, many)), rows)
                    self.assertEqual(text(one, item), before[:at] + before[at + many:])
                else:
                    with self.assertRaises(NotThere):
                        cut(one, item, at, many)
                if chance.random() < 0.3:
                    met(hand, other)
                    self.assertEqual(signs(hand, item), signs(other, item))

    def test_undo_and_redo_step_by_step(self):
        for seed in range(10):
            chance = random.Random(seed)
            row = worked(seed, 3, 40)
            for step in range(30):
                hand = chance.choice(row)
                operations = give(hand, NONE)
                own = [one for one in operations if one[0] == hand.ours and one[3][0] not in ("undo", "redo")]
                gone = plain_undone(operations)
                undos = [one[3][1] for one in operations if one[3][0] == "undo"]
                left = [one[:2] for one in own if one[:2] not in gone]
                back = sorted((one[:2] for one in own if one[:2] in gone),
                              key=lambda name: len(undos) - undos[::-1].index(name))
                if chance.random() < 0.5 and left:
                    undo(hand)
                    self.assertEqual(give(hand, NONE)[-1][3], ("undo", max(left)))
                elif back:
                    redo(hand)
                    self.assertEqual(give(hand, NONE)[-1][3], ("redo", back[-1]))
                told(hand, chance.choice(row), chance.randrange(4))


class Showing(unittest.TestCase):
    def test_a_hand_shows_what_a_plain_telling_comes_to(self):
        for seed in range(8):
            for hand in worked(seed, 4, 120):
                plain = Plain(give(hand, NONE))
                with self.subTest(seed=seed, hand=hand.ours):
                    self.assertEqual(picture(outline_of(hand)), plain.picture())
                    self.assertEqual(shown(hand), plain_lines(plain, "root", 0))

    def test_hands_that_have_all_met_show_the_same(self):
        for seed in range(8):
            row = worked(seed, 5, 150)
            all_met(row)
            for hand in row[1:]:
                with self.subTest(seed=seed, hand=hand.ours):
                    self.assertEqual(lacks(row[0], hand) + lacks(hand, row[0]), 0)
                    self.assertEqual(shown(hand), shown(row[0]))
                    self.assertEqual(state(hand)[1:], state(row[0])[1:])
                    self.assertEqual(saved(hand)[1:], saved(row[0])[1:])

    def test_in_whatever_order_they_were_taken(self):
        for seed in range(6):
            row = worked(seed, 4, 100)
            all_met(row)
            operations = give(row[0], NONE)
            late = Hand(9)
            again = 0
            # What came while eight waited must come once more.
            while lacks(row[0], late) > 0 and again < 200:
                for message in mixed(seed * 1000 + again, operations):
                    take(late, message)
                again += 1
            self.assertEqual(shown(late), shown(row[0]))
            self.assertEqual(give(late, NONE), in_order(operations))

    def test_a_hand_that_is_saved_and_loaded_on_the_way(self):
        for seed in range(6):
            chance = random.Random(seed)
            row, twins = [Hand(0), Hand(1), Hand(2)], [Hand(0), Hand(1), Hand(2)]
            for step in range(80):
                k, other = chance.sample(range(3), 2)
                work, most = chance.randrange(10 ** 6), chance.randrange(4)
                twins[k] = loaded(saved(twins[k]))
                for hands in [row, twins]:
                    some_work(random.Random(work), hands[k])
                    told(hands[k], hands[other], most)
            for hand, twin in zip(row, twins):
                self.assertEqual(state(hand), state(twin))

    def test_asking_changes_nothing(self):
        for hand in worked(3, 3, 60):
            before = saved(hand)
            for depth, name in pages(hand, "root"):
                children(hand, name).clear()
                pages(hand, name).clear()
            shown(hand).clear()
            give(hand, NONE).clear()
            self.assertEqual(saved(hand), before)
            self.assertEqual(shown(hand), shown(loaded(before)))

    def test_sixteen_hands_with_many_operations(self):
        row = [Hand(ours) for ours in range(16)]
        for hand in row:
            item = put(hand, "root", None)
            for k in range(60):
                write(hand, item, 0, "ab")
                put(hand, item, None)
        all_met(row)
        for hand in row:
            self.assertEqual([hand.have(other) for other in range(16)], [121] * 16)
            self.assertEqual(shown(hand), shown(row[0]))
        self.assertEqual(len(shown(row[0])), 16 * 61)


if __name__ == "__main__":
    unittest.main()
