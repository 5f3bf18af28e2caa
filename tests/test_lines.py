"""[1.4]: the line of an operation, and that every other line writes none."""

import unittest

from manyhands.errors import NoDeed
from manyhands.lines import read, shown
from manyhands.names import is_operation
from samples import LINES, MOST, OPERATIONS, ROWS, changed

# Each row breaks [1.1] to [1.3], but has a form that shown can write.
BROKEN = [
    (16, 1, 1, ("put", "root", None)),
    (-1, 1, 1, ("put", "root", None)),
    (0, 0, 1, ("put", "root", None)),
    (0, -1, 1, ("put", "root", None)),
    (0, 1, 0, ("put", "root", None)),
    (0, 1, -1, ("put", "root", None)),
    (0, MOST + 1, 1, ("put", "root", None)),
    (0, 1, MOST + 1, ("put", "root", None)),
    (0, 1, 1, ("put", None, None)),
    (0, 1, 1, ("put", "root", "root")),
    (0, 1, 1, ("put", "root", "bin")),
    (0, 1, 1, ("put", (16, 1), None)),
    (0, 1, 1, ("put", (0, 0), None)),
    (0, 1, 1, ("put", (-1, 1), None)),
    (0, 1, 1, ("put", "root", (0, MOST + 1))),
    (0, 1, 1, ("put", (0, 1, 0), None)),
    (0, 1, 1, ("put", 5, None)),
    (0, 1, 1, ("move", (0, 1), "root", (0, 1, 0))),
    (0, 1, 1, ("move", None, "root", None)),
    (0, 1, 1, ("drop", None)),
    (0, 1, 1, ("write", (0, 1), (0, 1), "a")),
    (0, 1, 1, ("write", (0, 1), (0, 1, 16), "a")),
    (0, 1, 1, ("write", (0, 1), (0, 1, -1), "a")),
    (0, 1, 1, ("write", (0, 1), "root", "a")),
    (0, 1, 1, ("write", None, None, "a")),
    (0, 1, 1, ("write", (0, 1), None, "")),
    (0, 1, 1, ("write", (0, 1), None, "a" * 17)),
    (0, 1, 1, ("write", (0, 1), None, " " * 17)),
    (0, 1, 1, ("write", (0, 1), None, "5" + chr(37))),
    (0, 1, 1, ("write", (0, 1), None, "a\n")),
    (0, 1, 1, ("write", (0, 1), None, "a\tb")),
    (0, 1, 1, ("write", (0, 1), None, chr(127))),
    (0, 1, 1, ("write", (0, 1), None, chr(228))),
    (0, 1, 1, ("cut", (0, 1), (0, 1, 0), 0)),
    (0, 1, 1, ("cut", (0, 1), (0, 1, 0), -1)),
    (0, 1, 1, ("cut", (0, 1), (0, 1, 0), 17)),
    (0, 1, 1, ("cut", (0, 1), (0, 1, 15), 2)),
    (0, 1, 1, ("cut", (0, 1), (0, 1, 16), 1)),
    (0, 1, 1, ("cut", (0, 1), (0, 1), 1)),
    (0, 1, 1, ("cut", (0, 1), None, 1)),
    (0, 1, 1, ("set", (0, 1), 4, 0)),
    (0, 1, 1, ("set", (0, 1), -1, 0)),
    (0, 1, 1, ("set", (0, 1), 0, MOST + 1)),
    (0, 1, 1, ("set", (0, 1), 0, -MOST - 1)),
    (0, 1, 1, ("set", (0, 1), 0, None)),
    (0, 1, 1, ("set", (0, 1), None, 0)),
    (0, 1, 1, ("undo", "root")),
    (0, 1, 1, ("undo", None)),
    (0, 1, 1, ("undo", (0, 1, 0))),
    (0, 1, 1, ("redo", "bin")),
    (0, 1, 1, ("redo", (16, 1))),
]


class Shown(unittest.TestCase):
    def test_the_line_of_each_sample(self):
        for operation, line in ROWS:
            with self.subTest(line=line):
                self.assertEqual(shown(operation), line)

    def test_the_samples_have_each_kind(self):
        kinds = [operation[3][0] for operation in OPERATIONS]
        self.assertEqual(sorted(set(kinds)), ["cut", "drop", "move", "put", "redo", "set", "undo", "write"])

    def test_what_lies_somewhat_beyond_the_bounds_is_not_refused(self):
        self.assertEqual(shown((16, 0, 0, ("put", (17, 0), None))), "16 0 0 put 17.0 -")
        self.assertEqual(shown((0, 1, 1, ("write", (0, 1), None, "a" * 17))), "0 1 1 write 0.1 - " + "a" * 17)
        self.assertEqual(shown((0, 1, 1, ("set", (0, 1), 4, 10 ** 60))), "0 1 1 set 0.1 4 1" + "0" * 60)


class Read(unittest.TestCase):
    def assert_refused(self, line):
        with self.subTest(line=line):
            with self.assertRaises(NoDeed):
                read(line)

    def assert_only_tuples(self, thing):
        self.assertNotIsInstance(thing, list)
        if isinstance(thing, tuple):
            for part in thing:
                self.assert_only_tuples(part)

    def test_the_operation_of_each_sample(self):
        for operation, line in ROWS:
            with self.subTest(line=line):
                answer = read(line)
                self.assertEqual(answer, operation)
                self.assertEqual(repr(answer), repr(operation))
                self.assert_only_tuples(answer)
                self.assertTrue(is_operation(answer))

    def test_read_undoes_shown(self):
        for number in [-MOST, -10, -1, 0, 1, 9, 10, MOST]:
            operation = (0, 1, 1, ("set", (0, 1), 0, number))
            self.assertEqual(read(shown(operation)), operation)
        for k in range(32, 127):
            for text in [chr(k), chr(k) * 16, " " + chr(k), chr(k) + " "]:
                operation = (0, 1, 1, ("write", (0, 1), (0, 1, 9), text))
                if k != 37:
                    self.assertEqual(read(shown(operation)), operation)

    def test_the_line_of_a_broken_operation_writes_none(self):
        for operation in BROKEN:
            self.assertFalse(is_operation(operation))
            self.assert_refused(shown(operation))

    def test_lines_with_words_missing(self):
        for line in ["", " ", "0", "0 1", "0 1 1", "0 1 1 ", "0 1 1 put", "put root -", "-", "root", "waits", "hand 0"]:
            self.assert_refused(line)

    def test_a_word_less(self):
        for operation, line in ROWS:
            words = line.split(" ", 6)
            for k in range(len(words)):
                if operation[3][0] != "write" or k == 6:
                    self.assert_refused(" ".join(words[:k] + words[k + 1:]))

    def test_a_write_with_a_word_less(self):
        for line in [
            "1 8 write 0.1 - a", "0 1 1 0.1 - a", "0 1 1 write - a", "0 1 1 write 0.1 a", "0 1 1 write 0.1 -",
            "0 1 1 write 0.1 - ", "0 1 1 write 0.1", "0 1 1 write 0.1 ", "0 1 1 write",
        ]:
            self.assert_refused(line)

    def test_a_word_more(self):
        for operation, line in ROWS:
            if operation[3][0] != "write":
                for more in ["-", "0", "1", "0.1", "root", "a", "", " "]:
                    self.assert_refused(line + " " + more)
                    self.assert_refused(more + " " + line)

    def test_a_word_more_behind_a_text_is_the_texts_own(self):
        self.assertEqual(read("0 1 1 write 0.1 - a b"), (0, 1, 1, ("write", (0, 1), None, "a b")))
        self.assertEqual(read("0 1 1 write 0.1 - - a"), (0, 1, 1, ("write", (0, 1), None, "- a")))

    def test_a_blank_more(self):
        for operation, line in ROWS:
            ahead = line.split(" ", 6)
            is_write = operation[3][0] == "write"
            for k in range(1, 6 if is_write else len(ahead)):
                self.assert_refused(" ".join(ahead[:k]) + "  " + " ".join(ahead[k:]))
            self.assert_refused(" " + line)
            if not is_write:
                self.assert_refused(line + " ")

    def test_a_blank_more_that_is_a_texts_own_sign(self):
        self.assertEqual(read("0 1 1 write 0.1 -  a"), (0, 1, 1, ("write", (0, 1), None, " a")))
        self.assertEqual(read("0 1 1 write 0.1 - a "), (0, 1, 1, ("write", (0, 1), None, "a ")))
        self.assertEqual(read("0 1 1 write 0.1 -   "), (0, 1, 1, ("write", (0, 1), None, "  ")))
        self.assert_refused("0 1 1 write 0.1 - " + " " * 17)
        self.assert_refused("0 1 1 write 0.1 - " + "a" * 16 + " ")

    def test_other_white_space(self):
        for line in LINES:
            for sign in ["\n", "\t", "\r"]:
                self.assert_refused(line + sign)
                self.assert_refused(sign + line)
                self.assert_refused(line.replace(" ", sign, 1))

    def test_numbers_in_other_forms(self):
        forms = ["01", "+1", "-1", "1_0", "1.0", "1.", ".1", "0x1", "1e1", "one", "", "--1", "True", "None", chr(0x661)]
        for form in forms:
            self.assert_refused(f"{form} 1 1 put root -")
            self.assert_refused(f"0 {form} 1 put root -")
            self.assert_refused(f"0 1 {form} put root -")
            self.assert_refused(f"0 1 1 cut 0.1 0.1.0 {form}")
            self.assert_refused(f"0 1 1 set 0.1 {form} 0")
            self.assert_refused(f"0 1 1 put root 0.{form}")
            self.assert_refused(f"0 1 1 put root {form}.1")
            self.assert_refused(f"0 1 1 write 0.1 0.1.{form} a")
            self.assert_refused(f"0 1 1 undo 0.{form}")

    def test_set_numbers_in_other_forms(self):
        for form in ["-0", "+0", "00", "-01", "01", "+1", "--1", "- 1", "-", "", "-None", "1-", "5.0", "root", "None"]:
            self.assert_refused(f"0 1 1 set 0.1 0 {form}")

    def test_a_nought_ahead_of_any_number(self):
        for operation, line in ROWS:
            words = line.split(" ", 6)
            for k, word in enumerate(words):
                if operation[3][0] == "write" and k == 6:
                    continue
                starts = [j for j in range(len(word)) if word[j].isdigit() and not word[:j][-1:].isdigit()]
                for j in starts:
                    self.assert_refused(" ".join(words[:k] + [word[:j] + "0" + word[j:]] + words[k + 1:]))

    def test_hand_nought_below_nought(self):
        self.assert_refused("-0 1 1 put root -")
        self.assert_refused("0 1 1 put -0.1 -")
        self.assert_refused("0 1 1 write 0.1 0.1.-0 a")
        self.assert_refused("0 1 1 set 0.1 -0 0")

    def test_numbers_of_very_many_figures(self):
        for many in [61, 100, 4301, 10000]:
            figures = "1" * many
            self.assert_refused(f"0 {figures} 1 put root -")
            self.assert_refused(f"0 1 {figures} put root -")
            self.assert_refused(f"0 1 1 put 0.{figures} -")
            self.assert_refused(f"0 1 1 set 0.1 0 -{figures}")
            self.assert_refused(f"0 {'0' * many}1 1 put root -")

    def test_other_words_as_the_kind(self):
        for word in ["", "Put", "PUT", "puts", "pu", "-", "root", "0", "insert", "hand", "waits"]:
            self.assert_refused(f"0 1 1 {word} root -")
            self.assert_refused(f"0 1 1 {word}")
            self.assert_refused(f"0 1 1 {word} 0.1")

    def test_a_kind_with_the_parts_of_another(self):
        kinds = ["put", "move", "drop", "cut", "set"]
        for operation, line in ROWS:
            words = line.split(" ", 6)
            for kind in kinds:
                if kind != words[3] and words[3] in kinds:
                    self.assert_refused(" ".join(words[:3] + [kind] + words[4:]))

    def test_names_of_other_length(self):
        for name in ["0", "0.1.0", "0.1.0.0", "0.1.", ".0.1", "0..1", ".", "..", "0.", ".1"]:
            self.assert_refused(f"0 1 1 put {name} -")
            self.assert_refused(f"0 1 1 put root {name}")
            self.assert_refused(f"0 1 1 drop {name}")
            self.assert_refused(f"0 1 1 undo {name}")
        for name in ["0", "0.1", "0.1.0.0", "0.1.0.", ".0.1.0", "0.1..0", ".", ".."]:
            self.assert_refused(f"0 1 1 write 0.1 {name} a")
            self.assert_refused(f"0 1 1 cut 0.1 {name} 1")

    def test_none_and_the_root_in_other_words(self):
        for word in ["None", "none", "--", "_", "", "Root", "ROOT", "Bin", "roots", "bins", "root.1", "root.", "-.-"]:
            self.assert_refused(f"0 1 1 put {word} -")
            self.assert_refused(f"0 1 1 put root {word}")
            self.assert_refused(f"0 1 1 write 0.1 {word} a")

    def test_every_line_that_is_read_is_the_line_of_what_was_read(self):
        # One sign of a sample's line left out, doubled or changed: read it back or refuse it.
        for line in LINES:
            for k in range(len(line)):
                for sign in ["", line[k] * 2, "0", "1", "-", "+", ".", " ", "_", "a", chr(37)]:
                    other = line[:k] + sign + line[k + 1:]
                    try:
                        operation = read(other)
                    except NoDeed:
                        continue
                    self.assertTrue(is_operation(operation), other)
                    self.assertEqual(shown(operation), other)

    def test_samples_with_one_part_changed_are_read_just_if_they_are_operations(self):
        for operation in OPERATIONS:
            for change in [0, 1, -1, 3, 4, 15, 16, 17, MOST, MOST + 1, None, "root", "bin", (0, 1), (0, 1, 2), "a"]:
                for thing in changed(operation, lambda part: change):
                    if is_operation(thing):
                        self.assertEqual(read(shown(thing)), thing)


if __name__ == "__main__":
    unittest.main()
