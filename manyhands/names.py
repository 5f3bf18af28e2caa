"""What an operation is, and the order of operations."""

HANDS = 16
SIGNS = 16
PLACES = 4
LEFT_OUT = 37


def is_whole(thing):
    # Python counts True and False as ints; here they are no whole numbers.
    return isinstance(thing, int) and not isinstance(thing, bool) and abs(thing) < 10 ** 60


def is_below(thing, limit):
    return is_whole(thing) and 0 <= thing < limit


def is_from_one(thing):
    return is_whole(thing) and thing >= 1


def is_name(thing):
    if not isinstance(thing, tuple) or len(thing) != 2:
        return False
    return is_below(thing[0], HANDS) and is_from_one(thing[1])


def is_sign_name(thing):
    if not isinstance(thing, tuple) or len(thing) != 3:
        return False
    return is_name(thing[:2]) and is_below(thing[2], SIGNS)


def is_item(thing):
    return is_name(thing) or thing == "root" or thing == "bin"


def is_sibling(thing):
    return thing is None or is_name(thing)


def is_behind(thing):
    return thing is None or is_sign_name(thing)


def is_sign(sign):
    return " " <= sign <= "~" and ord(sign) != LEFT_OUT


def is_text(thing):
    if not isinstance(thing, str) or not 1 <= len(thing) <= SIGNS:
        return False
    return all([is_sign(sign) for sign in thing])


def is_place(thing):
    return is_below(thing, PLACES)


# What the parts behind a deed's first word must be.
PARTS = {
    "put": (is_item, is_sibling),
    "move": (is_item, is_item, is_sibling),
    "drop": (is_item,),
    "write": (is_item, is_behind, is_text),
    "cut": (is_item, is_sign_name, is_from_one),
    "set": (is_item, is_place, is_whole),
    "undo": (is_name,),
    "redo": (is_name,),
}


def are_parts(parts, checks):
    if len(parts) != len(checks):
        return False
    return all([check(part) for check, part in zip(checks, parts)])


def is_deed(thing):
    if not isinstance(thing, tuple) or len(thing) == 0:
        return False
    # A list can't be looked for in a dict, so only texts get that far.
    if not isinstance(thing[0], str) or thing[0] not in PARTS:
        return False
    if not are_parts(thing[1:], PARTS[thing[0]]):
        return False
    # One operation has no more signs than that, so a cut can't reach beyond them.
    return thing[0] != "cut" or thing[2][2] + thing[3] <= SIGNS


def is_operation(thing):
    """Whether any thing at all is an operation: True or False, never an error."""
    if not isinstance(thing, tuple) or len(thing) != 4:
        return False
    return is_name(thing[:2]) and is_from_one(thing[2]) and is_deed(thing[3])


def time_and_hand(operation):
    return (operation[2], operation[0])


def in_order(operations):
    """A new list of the operations: by time, of equal times the lower hand first."""
    return sorted(operations, key=time_and_hand)
