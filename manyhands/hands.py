"""A hand: the operations that it has taken, those that wait, and what it takes and gives."""

from manyhands.errors import NoDeed, NoTime, Unlike
from manyhands.names import in_order, is_operation
from manyhands.playing import played

MOST_WAITING = 8


class Hand:
    """A hand that has taken nothing so far; `ours` is its number."""

    def __init__(self, ours):
        self.ours = ours
        self.taken = {}
        self.waiting = []
        self.outline = None

    def have(self, other):
        """The last number that was taken of a hand, 0 for none."""
        return len(self.taken.get(other, []))


def all_taken(hand):
    """A new list of the operations taken, in the order."""
    operations = []
    for other in hand.taken:
        operations.extend(hand.taken[other])
    return in_order(operations)


def outline_of(hand):
    """What the operations taken come to."""
    # Kept till something else is taken: to play all of them for each question would take long.
    if hand.outline is None:
        hand.outline = played(all_taken(hand))
    return hand.outline


def was_taken(hand, operation):
    """Whether one of its name was taken."""
    return operation[1] <= hand.have(operation[0])


def is_next(hand, operation):
    return operation[1] == hand.have(operation[0]) + 1


def last_time(hand, other):
    """The time of the last operation that was taken of a hand, 0 for none."""
    if hand.have(other) == 0:
        return 0
    return hand.taken[other][-1][2]


def not_yet_taken(hand, message):
    """What waits, and what the message brings and was not taken, by names; Unlike where it is refused so."""
    fresh = {}
    for operation in hand.waiting + message:
        name = operation[:2]
        if was_taken(hand, operation):
            same = hand.taken[name[0]][name[1] - 1]
        elif name[0] == hand.ours:
            raise Unlike(f"own operation {name} was not taken")
        else:
            same = fresh.setdefault(name, operation)
        if same != operation:
            raise Unlike(f"two operations {name} differ")
    return fresh


def check_times(hand, fresh):
    """NoTime where the times of a hand's operations don't rise with their numbers."""
    # Those that were taken rise already, and have lower numbers than the fresh ones.
    times = {}
    for name in sorted(fresh):
        time = fresh[name][2]
        if time <= times.get(name[0], last_time(hand, name[0])):
            raise NoTime(f"the time of operation {name} is too low")
        times[name[0]] = time


def check_message(hand, message):
    if not all([is_operation(thing) for thing in message]):
        raise NoDeed("a thing in the message is no operation")
    check_times(hand, not_yet_taken(hand, message))


def accept(hand, operation):
    """Takes an operation that is its hand's next, without looking at it."""
    hand.taken.setdefault(operation[0], []).append(operation)
    hand.outline = None


def accept_waiting(hand):
    """Takes those that wait and have become next, till none is; how many."""
    many = 0
    found = [operation for operation in hand.waiting if is_next(hand, operation)]
    while len(found) > 0:
        hand.waiting.remove(found[0])
        accept(hand, found[0])
        many += 1
        found = [operation for operation in hand.waiting if is_next(hand, operation)]
    return many


def receive(hand, operation):
    """Takes one operation, lets it wait, or passes it over; how many were taken."""
    if is_next(hand, operation):
        accept(hand, operation)
        return 1 + accept_waiting(hand)
    known = was_taken(hand, operation) or operation in hand.waiting
    if not known and len(hand.waiting) < MOST_WAITING:
        hand.waiting.append(operation)
    return 0


def take(hand, message):
    """How many operations were taken, those that waited among them; NoDeed, Unlike, NoTime."""
    check_message(hand, message)
    many = 0
    for operation in message:
        many += receive(hand, operation)
    return many


def give(hand, have):
    """A new list of the operations taken whose numbers are above what another hand has, in the order."""
    numbers = dict(enumerate(have))
    return [operation for operation in all_taken(hand) if operation[1] > numbers.get(operation[0], 0)]
