"""A hand as lines, and the hand that lines tell."""

from manyhands.errors import HandsError, NoDeed, NoSave
from manyhands.hands import MOST_WAITING, Hand, accept, all_taken, check_message, is_next, last_time, was_taken
from manyhands.lines import read, shown
from manyhands.names import HANDS

WAITS = "waits "


def line_of_hand(ours):
    return f"hand {ours}"


def saved(hand):
    """A new list of the hand's lines: its number, what it has taken, what waits."""
    taken = [shown(operation) for operation in all_taken(hand)]
    waiting = [WAITS + shown(operation) for operation in hand.waiting]
    return [line_of_hand(hand.ours)] + taken + waiting


def new_hand(lines):
    """The hand that the first line tells, without operations; NoSave."""
    for ours in range(HANDS):
        if lines[:1] == [line_of_hand(ours)]:
            return Hand(ours)
    raise NoSave(1)


def may_be_taken(hand, operation):
    """Whether a line of it could stand behind those that were loaded."""
    if len(hand.waiting) > 0 or not is_next(hand, operation):
        return False
    return operation[2] > last_time(hand, operation[0])


def may_wait(hand, operation):
    """Whether a line with `waits` could stand behind those that were loaded."""
    if is_next(hand, operation) or was_taken(hand, operation) or operation in hand.waiting:
        return False
    if len(hand.waiting) == MOST_WAITING:
        return False
    try:
        check_message(hand, [operation])
    except HandsError:
        return False
    return True


def load_line(hand, line, k):
    """The hand takes what the line tells, or keeps it waiting; NoSave of line k."""
    waits = line.startswith(WAITS)
    try:
        operation = read(line[len(WAITS):] if waits else line)
    except NoDeed:
        raise NoSave(k) from None
    if waits and may_wait(hand, operation):
        hand.waiting.append(operation)
    elif not waits and may_be_taken(hand, operation):
        accept(hand, operation)
    else:
        raise NoSave(k)


def loaded(lines):
    """The hand that the lines tell; NoSave with the first line that is wrong, counted from 1."""
    hand = new_hand(lines)
    for k, line in enumerate(lines[1:], start=2):
        load_line(hand, line, k)
    return hand
