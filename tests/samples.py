"""Operations with their lines, and changed copies of operations, for the tests."""

MOST = 10 ** 60 - 1
NINES = "9" * 60

# Each row: an operation and its line.
ROWS = [
    ((0, 1, 1, ("put", "root", None)), "0 1 1 put root -"),
    ((15, 2, 7, ("put", "bin", (0, 1))), "15 2 7 put bin 0.1"),
    ((3, 10, 20, ("put", (4, 30), (15, 200))), "3 10 20 put 4.30 15.200"),
    ((MOST % 16, MOST, MOST, ("put", (0, MOST), None)), f"15 {NINES} {NINES} put 0.{NINES} -"),
    ((1, 1, 2, ("move", (0, 1), "root", None)), "1 1 2 move 0.1 root -"),
    ((1, 2, 3, ("move", "root", (2, 1), (2, 2))), "1 2 3 move root 2.1 2.2"),
    ((1, 3, 4, ("move", "bin", "bin", (2, 2))), "1 3 4 move bin bin 2.2"),
    ((2, 1, 5, ("drop", (0, 1))), "2 1 5 drop 0.1"),
    ((2, 2, 6, ("drop", "root")), "2 2 6 drop root"),
    ((2, 3, 7, ("drop", "bin")), "2 3 7 drop bin"),
    ((4, 1, 8, ("write", (0, 1), None, "a")), "4 1 8 write 0.1 - a"),
    ((4, 2, 9, ("write", (0, 1), (4, 1, 0), "sixteen signs ok")), "4 2 9 write 0.1 4.1.0 sixteen signs ok"),
    ((4, 3, 10, ("write", "root", (4, 2, 15), "  a  b  ")), "4 3 10 write root 4.2.15   a  b  "),
    ((4, 4, 11, ("write", "bin", None, " ")), "4 4 11 write bin -  "),
    ((4, 5, 12, ("write", (0, 1), None, " " * 16)), "4 5 12 write 0.1 - " + " " * 16),
    ((4, 6, 13, ("write", (0, 1), None, "-")), "4 6 13 write 0.1 - -"),
    ((4, 7, 14, ("write", (0, 1), None, "0.1")), "4 7 14 write 0.1 - 0.1"),
    ((4, 8, 15, ("write", (0, 1), None, "007")), "4 8 15 write 0.1 - 007"),
    ((4, 9, 16, ("write", (0, 1), None, "root")), "4 9 16 write 0.1 - root"),
    ((4, 10, 17, ("write", (0, 1), None, "~!\"#$&'()*+,/:;<")), "4 10 17 write 0.1 - ~!\"#$&'()*+,/:;<"),
    ((5, 1, 18, ("cut", (0, 1), (4, 2, 0), 16)), "5 1 18 cut 0.1 4.2.0 16"),
    ((5, 2, 19, ("cut", "root", (4, 2, 15), 1)), "5 2 19 cut root 4.2.15 1"),
    ((5, 3, 20, ("cut", "bin", (4, 2, 7), 9)), "5 3 20 cut bin 4.2.7 9"),
    ((6, 1, 21, ("set", (0, 1), 0, 0)), "6 1 21 set 0.1 0 0"),
    ((6, 2, 22, ("set", (0, 1), 3, -5)), "6 2 22 set 0.1 3 -5"),
    ((6, 3, 23, ("set", "root", 1, MOST)), f"6 3 23 set root 1 {NINES}"),
    ((6, 4, 24, ("set", "bin", 2, -MOST)), f"6 4 24 set bin 2 -{NINES}"),
    ((7, 1, 25, ("undo", (0, 1))), "7 1 25 undo 0.1"),
    ((7, 2, 26, ("undo", (15, MOST))), f"7 2 26 undo 15.{NINES}"),
    ((8, 1, 27, ("redo", (0, 1))), "8 1 27 redo 0.1"),
    ((8, 2, 28, ("redo", (7, 1))), "8 2 28 redo 7.1"),
]

OPERATIONS = [operation for operation, line in ROWS]
LINES = [line for operation, line in ROWS]


def changed(thing, change):
    """Every copy of a thing with just one of its parts, or the thing itself, changed."""
    copies = [change(thing)]
    if isinstance(thing, tuple):
        for k, part in enumerate(thing):
            copies.extend(thing[:k] + (copy,) + thing[k + 1:] for copy in changed(part, change))
    return copies


def changed_tuples(thing, change):
    """Like changed, but only the tuples in it are changed."""
    if not isinstance(thing, tuple):
        return []
    copies = [change(thing)]
    for k, part in enumerate(thing):
        copies.extend(thing[:k] + (copy,) + thing[k + 1:] for copy in changed_tuples(part, change))
    return copies
