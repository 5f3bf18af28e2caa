"""What hands tell one another."""

from manyhands.hands import give, take
from manyhands.names import HANDS


def lacking(hand, other):
    """The operations that a hand has and another one lacks, in the order."""
    return give(hand, [other.have(number) for number in range(HANDS)])


def lacks(hand, other):
    """How many operations a hand has that another one lacks."""
    return len(lacking(hand, other))


def told(hand, other, most):
    """The other takes the first, so many at most, of what it lacks; how many were taken."""
    return take(other, lacking(hand, other)[:max(most, 0)])


def met(one, other):
    """The one tells the other all that it lacks, then the other the one; how many were taken by both."""
    many = take(other, lacking(one, other))
    # Only now: what the other tells is what it has after that.
    return many + take(one, lacking(other, one))
