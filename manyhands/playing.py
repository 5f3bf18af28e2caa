"""What operations come to, played in the order and without the undone ones."""

from manyhands.names import in_order
from manyhands.outlines import Outline


def is_undo_or_redo(operation):
    return operation[3][0] == "undo" or operation[3][0] == "redo"


def last_words(operations):
    """For each name that an undo or redo names: which of both is the last one in the order."""
    words = {}
    for operation in in_order(operations):
        if is_undo_or_redo(operation):
            words[operation[3][1]] = operation[3][0]
    return words


def undone(operations):
    """The names of the operations that are undone, each with True."""
    # All of them are looked through first: an undo may come ahead of what it names.
    words = last_words(operations)
    names = {}
    for operation in operations:
        name = operation[:2]
        if not is_undo_or_redo(operation) and words.get(name) == "undo":
            names[name] = True
    return names


def play(outline, name, deed):
    """Does one deed to the outline; undos and redos do nothing there."""
    if deed[0] == "put":
        outline.put(name, deed[1], deed[2])
    elif deed[0] == "move":
        outline.move(deed[1], deed[2], deed[3])
    elif deed[0] == "drop":
        outline.move(deed[1], "bin", None)
    elif deed[0] == "write":
        outline.write(name, deed[1], deed[2], deed[3])
    elif deed[0] == "cut":
        outline.cut(deed[1], deed[2], deed[3])
    elif deed[0] == "set":
        outline.set_number(deed[1], deed[2], deed[3])


def played(operations):
    """A new outline: what the operations, in whatever order they are listed, come to."""
    outline = Outline()
    left_out = undone(operations)
    for operation in in_order(operations):
        name = operation[:2]
        if name not in left_out:
            play(outline, name, operation[3])
    return outline
