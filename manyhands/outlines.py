"""An outline: items within items below the root and the bin, each with a text and four numbers."""

from manyhands.names import PLACES


class Row:
    """Names one behind the other: the children of one parent, or the signs of one text."""

    def __init__(self):
        # None stands ahead of the first and behind the last, so the ends are no cases of their own.
        self.following = {None: None}
        self.preceding = {None: None}

    def holds(self, name):
        return name is not None and name in self.following

    def put_behind(self, name, other):
        """Puts a name right behind the other, if that stands in the row; else ahead of all."""
        ahead = other if self.holds(other) else None
        follower = self.following[ahead]
        self.following[ahead] = name
        self.preceding[name] = ahead
        self.following[name] = follower
        self.preceding[follower] = name

    def take_out(self, name):
        ahead = self.preceding.pop(name)
        follower = self.following.pop(name)
        self.following[ahead] = follower
        self.preceding[follower] = ahead

    def listed(self):
        names = []
        name = self.following[None]
        while name is not None:
            names.append(name)
            name = self.following[name]
        return names


class Outline:
    """At first the root and the bin alone; a change that the document lets do nothing does nothing."""

    def __init__(self):
        self.parents = {"root": None, "bin": None}
        self.rows = {"root": Row(), "bin": Row()}
        self.texts = {}
        self.numbers = {}
        self.written = {}
        self.hidden = {}

    def has(self, name):
        """Whether an item, the root or the bin is there."""
        return name in self.rows

    def has_item(self, name):
        """Like has, but the root and the bin are no items."""
        return name in self.texts

    def is_within(self, name, item):
        """Whether a name is the item itself or lies below it."""
        while name is not None and name != item:
            name = self.parents[name]
        return name is not None

    def put(self, item, parent, sibling):
        place = parent if self.has(parent) else "bin"
        self.parents[item] = place
        self.rows[place].put_behind(item, sibling)
        self.rows[item] = Row()
        self.texts[item] = Row()
        self.numbers[item] = [0] * PLACES

    def can_move(self, item, parent):
        return self.has_item(item) and self.has(parent) and not self.is_within(parent, item)

    def move(self, item, parent, sibling):
        if not self.can_move(item, parent):
            return
        # First out of its row: an item that is named as its own sibling then stands in none.
        self.rows[self.parents[item]].take_out(item)
        self.rows[parent].put_behind(item, sibling)
        self.parents[item] = parent

    def write(self, operation_name, item, behind, text):
        if not self.has_item(item):
            return
        ahead = behind
        for k, sign in enumerate(text):
            name = operation_name + (k,)
            self.texts[item].put_behind(name, ahead)
            self.written[name] = sign
            ahead = name

    def cut(self, item, first, many):
        if not self.has_item(item):
            return
        for k in range(first[2], first[2] + many):
            name = first[:2] + (k,)
            if self.texts[item].holds(name):
                self.hidden[name] = True

    def set_number(self, item, place, number):
        if self.has_item(item):
            self.numbers[item][place] = number

    def parent_of(self, name):
        """The parent of an item; None for the root and the bin."""
        return self.parents[name]

    def children_of(self, name):
        return self.rows[name].listed()

    def signs_of(self, item):
        """The names of the signs that are shown."""
        return [name for name in self.texts[item].listed() if name not in self.hidden]

    def text_of(self, item):
        return "".join([self.written[name] for name in self.signs_of(item)])

    def numbers_of(self, item):
        return list(self.numbers[item])
