"""Sessions of several hands for the tests, made by a written rule: the same seed gives the same session."""

import random

from manyhands.asking import pages
from manyhands.errors import Nothing, NotThere
from manyhands.hands import Hand
from manyhands.ours import cut, drop, move, place, put, redo, undo, write
from manyhands.sharing import met, told

SIGNS = "abc XYZ~!"


def some_item(chance, names):
    return chance.choice(names + ["root", "bin", (9, 99)])


def some_sign(chance, names):
    return chance.choice(names) + (chance.randrange(4),)


def some_deed(chance, names):
    """A deed that speaks of the names told, and now and then of what is not there."""
    kind = chance.choice(["put", "put", "move", "move", "drop", "write", "write", "cut", "set", "undo", "redo"])
    item = some_item(chance, names)
    sibling = chance.choice(names + [None])
    if kind == "put":
        return ("put", item, sibling)
    if kind == "move":
        return ("move", item, some_item(chance, names), sibling)
    if kind == "drop":
        return ("drop", item)
    if kind == "write":
        text = "".join(chance.choice(SIGNS) for k in range(chance.randrange(1, 7)))
        return ("write", item, chance.choice([None, some_sign(chance, names), some_sign(chance, names)]), text)
    if kind == "cut":
        return ("cut", item, some_sign(chance, names), chance.randrange(1, 5))
    if kind == "set":
        return ("set", item, chance.randrange(4), chance.randrange(-3, 4))
    return (kind, chance.choice(names))


def session(seed, hands, each):
    """Operations of so many hands, so many of each; their times often meet and the names come early or late."""
    chance = random.Random(seed)
    names = [(hand, number) for hand in range(hands) for number in range(1, each + 1)]
    operations = []
    for hand in range(hands):
        time = 0
        for number in range(1, each + 1):
            time += chance.choice([1, 1, 1, 2, 3])
            # Names of about the same age, so that most of what is spoken of is there.
            near = [name for name in names if name[1] <= number + 1]
            operations.append((hand, number, time, some_deed(chance, near)))
    return operations


def mixed(seed, operations):
    """The operations in messages: in another order, some twice."""
    chance = random.Random(seed)
    rest = operations + chance.sample(operations, len(operations) // 4)
    chance.shuffle(rest)
    messages = []
    while rest:
        many = chance.randrange(1, 6)
        messages.append(rest[:many])
        rest = rest[many:]
    return messages


def some_work(chance, hand):
    """The hand tries one operation of its own; what is refused makes nothing."""
    names = [name for depth, name in pages(hand, "root") + pages(hand, "bin")]
    item, above = chance.choice(names), chance.choice(names + [(9, 99)])
    sibling = chance.choice(names[1:] + [None])
    sibling = None if sibling == "bin" else sibling
    try:
        kind = chance.choice(["put", "put", "put", "write", "write", "cut", "move", "drop", "place", "undo", "redo"])
        if kind == "put":
            return [put(hand, above, sibling)]
        if kind == "move":
            return [move(hand, item, above, sibling)]
        if kind == "drop":
            return [drop(hand, item)]
        if kind == "place":
            return [place(hand, item, chance.randrange(5), chance.randrange(-2, 3))]
        if kind == "write":
            words = "".join(chance.choice(SIGNS) for k in range(chance.choice([0, 1, 3, 16, 17, 40])))
            return write(hand, item, chance.randrange(12), words)
        if kind == "cut":
            return cut(hand, item, chance.randrange(8), chance.randrange(12))
        return [undo(hand) if kind == "undo" else redo(hand)]
    except (NotThere, Nothing):
        return []


def worked(seed, hands, steps):
    """So many hands after so many steps of work and of telling one another some of it."""
    chance = random.Random(seed)
    row = [Hand(ours) for ours in range(hands)]
    for step in range(steps):
        some_work(chance, chance.choice(row))
        if chance.random() < 0.3:
            one, other = chance.sample(row, 2)
            told(one, other, chance.randrange(5))
    return row


def all_met(row):
    """Everybody hears of everything."""
    for hand in row + row:
        met(row[0], hand)
