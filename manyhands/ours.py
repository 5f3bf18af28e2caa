"""A hand's own operations."""

from manyhands.asking import outline_with, outline_with_item, outline_with_number, undoable
from manyhands.errors import NoDeed, Nothing, NotThere
from manyhands.hands import accept, all_taken, last_time, outline_of
from manyhands.names import SIGNS, is_sign
from manyhands.playing import undone


def next_time(hand):
    """One more than the greatest time of all operations taken."""
    return 1 + max([last_time(hand, other) for other in hand.taken], default=0)


def make(hand, deed):
    """The hand takes its next operation; the name of it."""
    name = (hand.ours, hand.have(hand.ours) + 1)
    accept(hand, name + (next_time(hand), deed))
    return name


def put(hand, above, sibling):
    """Puts a new item below what is there; the operation's name, which is the item's too."""
    outline_with(hand, above)
    return make(hand, ("put", above, sibling))


def check_move(hand, item, above):
    if not outline_of(hand).can_move(item, above):
        raise NotThere(f"{item} can not be moved to {above}")


def move(hand, item, above, sibling):
    """Moves an item, with all below it; the operation's name."""
    check_move(hand, item, above)
    return make(hand, ("move", item, above, sibling))


def drop(hand, item):
    """Moves an item to the bin; the operation's name."""
    check_move(hand, item, "bin")
    return make(hand, ("drop", item))


def place(hand, item, at, number):
    """Sets an item's number at a place; the operation's name."""
    outline_with_number(hand, item, at)
    return make(hand, ("set", item, at, number))


def undo(hand):
    """Undoes the last own operation that is not undone; the name of the undo."""
    left_out = undone(all_taken(hand))
    names = [name for name in undoable(hand, hand.ours) if name not in left_out]
    if len(names) == 0:
        raise Nothing("there is nothing to undo")
    return make(hand, ("undo", names[-1]))


def redo(hand):
    """Redoes the own operation that was undone last; the name of the redo."""
    operations = all_taken(hand)
    left_out = undone(operations)
    named = [operation[3][1] for operation in operations if operation[3][0] == "undo"]
    names = [name for name in named if name[0] == hand.ours and name in left_out]
    if len(names) == 0:
        raise Nothing("there is nothing to redo")
    return make(hand, ("redo", names[-1]))


def signs_at(hand, item, place):
    """The names of the signs shown; NotThere where the place is not behind so many of them."""
    found = outline_with_item(hand, item).signs_of(item)
    if not 0 <= place <= len(found):
        raise NotThere(f"the text of {item} has no place {place}")
    return found


def write(hand, item, place, text):
    """Writes a text behind so many of the signs shown; the list of the operations' names."""
    found = signs_at(hand, item, place)
    # No other hand would take an operation with such a sign, nor anything that comes behind it.
    if not all([is_sign(sign) for sign in text]):
        raise NoDeed(f"no text of signs: {text!r}")
    behind = found[place - 1] if place > 0 else None
    names = []
    for start in range(0, len(text), SIGNS):
        name = make(hand, ("write", item, behind, text[start:start + SIGNS]))
        names.append(name)
        behind = name + (SIGNS - 1,)
    return names


def is_followed(one, other):
    """Whether of two signs' names the other comes right behind the one in their operation."""
    return other == one[:2] + (one[2] + 1,)


def rows_of(found):
    """The signs parted into rows, each as long as it goes: of one operation, one behind the other in it."""
    rows = []
    for name in found:
        if len(rows) > 0 and is_followed(rows[-1][-1], name):
            rows[-1].append(name)
        else:
            rows.append([name])
    return rows


def cut(hand, item, place, many):
    """Cuts so many of the signs shown, from a place on; the list of the operations' names."""
    found = signs_at(hand, item, place)
    if place + many > len(found):
        raise NotThere(f"fewer than {many} signs of {item} stand behind place {place}")
    names = []
    for row in rows_of([found[k] for k in range(place, place + many)]):
        names.append(make(hand, ("cut", item, row[0], len(row))))
    return names
