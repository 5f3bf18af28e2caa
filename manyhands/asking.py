"""What a hand shows: what the operations that it has taken come to."""

from manyhands.errors import NotThere
from manyhands.hands import all_taken, outline_of
from manyhands.names import is_place
from manyhands.playing import is_undo_or_redo, undone


def outline_with(hand, name):
    """The hand's outline; NotThere where no such item, root or bin is in it."""
    outline = outline_of(hand)
    if not outline.has(name):
        raise NotThere(f"{name} is not there")
    return outline


def outline_with_item(hand, item):
    """Like outline_with, but the root and the bin are no items."""
    outline = outline_of(hand)
    if not outline.has_item(item):
        raise NotThere(f"no item {item} is there")
    return outline


def outline_with_number(hand, item, place):
    """Like outline_with_item, and NotThere where an item has no number at the place."""
    if not is_place(place):
        raise NotThere(f"there is no place {place}")
    return outline_with_item(hand, item)


def there(hand, item):
    """Whether an item, the root or the bin is there."""
    return outline_of(hand).has(item)


def parent(hand, item):
    """The name of an item's parent; NotThere of the root and the bin too."""
    return outline_with_item(hand, item).parent_of(item)


def children(hand, item):
    """A new list of the children of an item, the root or the bin, in their order."""
    return outline_with(hand, item).children_of(item)


def text(hand, item):
    """The text of an item without the signs that are cut."""
    return outline_with_item(hand, item).text_of(item)


def signs(hand, item):
    """A new list of the names of the signs that the text shows."""
    return outline_with_item(hand, item).signs_of(item)


def writers(hand, item):
    """A new list: for each sign that the text shows, the hand that wrote it."""
    return [name[0] for name in signs(hand, item)]


def number(hand, item, place):
    """An item's number at a place."""
    return outline_with_number(hand, item, place).numbers_of(item)[place]


def undoable(hand, other):
    """The names of the operations taken of a hand that are no undo and no redo, the lower numbers first."""
    return [operation[:2] for operation in hand.taken.get(other, []) if not is_undo_or_redo(operation)]


def is_undone(hand, name):
    """Whether a taken operation that is no undo and no redo is undone."""
    if name not in undoable(hand, name[0]):
        raise NotThere(f"no operation {name} that could be undone was taken")
    return name in undone(all_taken(hand))


def pages(hand, item):
    """A new list of pairs of a depth and a name: the item itself at 0, each ahead of its children."""
    outline = outline_with(hand, item)
    found = []
    # A list of what is still to come, not a recursion: outlines may be deeper than calls may go.
    coming = [(0, item)]
    while len(coming) > 0:
        page = coming.pop()
        found.append(page)
        for child in reversed(outline.children_of(page[1])):
            coming.append((page[0] + 1, child))
    return found


def line_of(outline, depth, item):
    numbers = [f" [{place}={value}]" for place, value in enumerate(outline.numbers_of(item)) if value != 0]
    return " " * (depth - 1) + outline.text_of(item) + "".join(numbers)


def shown(hand):
    """A new list of the outline's lines, one for each item below the root."""
    outline = outline_of(hand)
    return [line_of(outline, depth, item) for depth, item in pages(hand, "root")[1:]]
