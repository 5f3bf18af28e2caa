"""What the tests look at: pictures of outlines and hands, and a plain second telling of what operations come to."""

from manyhands.hands import give, outline_of


def numbered(*deeds):
    """The deeds as operations of hand 0, number and time counted from 1: the n-th puts the item (0, n)."""
    return [(0, k, k, deed) for k, deed in enumerate(deeds, start=1)]


def tree(outline, name):
    """All that lies below a name: pairs of a child and its own tree."""
    return [(child, tree(outline, child)) for child in outline.children_of(name)]


def picture(outline):
    """All that an outline shows, by names: parent, children, signs, text and numbers."""
    told = {"root": outline.children_of("root"), "bin": outline.children_of("bin")}
    waiting = told["root"] + told["bin"]
    while waiting:
        item = waiting.pop()
        children = outline.children_of(item)
        told[item] = (outline.parent_of(item), children, outline.signs_of(item), outline.text_of(item),
                      outline.numbers_of(item))
        waiting.extend(children)
    return told


def state(hand):
    """All that a hand has: what it shows, and what it keeps."""
    return (hand.ours, [hand.have(other) for other in range(-2, 18)], give(hand, [0] * 16), list(hand.waiting),
            picture(outline_of(hand)))


def plain_undone(operations):
    """[2.2], word by word."""
    names = []
    for operation in operations:
        naming = [other for other in operations
                  if other[3][0] in ("undo", "redo") and other[3][1] == operation[:2]]
        naming.sort(key=lambda other: (other[2], other[0]))
        if operation[3][0] not in ("undo", "redo") and naming and naming[-1][3][0] == "undo":
            names.append(operation[:2])
    return names


class Plain:
    """[2.1] once more, with lists that are walked: slow, and written apart from the program."""

    def __init__(self, operations):
        self.children = {"root": [], "bin": []}
        self.texts = {}
        self.numbers = {}
        left_out = plain_undone(operations)
        for hand, number, time, deed in sorted(operations, key=lambda one: (one[2], one[0])):
            if (hand, number) not in left_out and deed[0] not in ("undo", "redo"):
                getattr(self, deed[0])((hand, number), *deed[1:])

    def parent(self, item):
        return [name for name, row in self.children.items() if item in row][0]

    def below(self, item):
        found = list(self.children[item])
        for child in self.children[item]:
            found += self.below(child)
        return found

    def insert(self, item, parent, sibling):
        row = self.children[parent]
        row.insert(row.index(sibling) + 1 if sibling in row else 0, item)

    def put(self, name, parent, sibling):
        self.insert(name, parent if parent in self.children else "bin", sibling)
        self.children[name] = []
        self.texts[name] = []
        self.numbers[name] = [0, 0, 0, 0]

    def move(self, name, item, parent, sibling):
        if item not in self.texts or parent not in self.children or parent in [item] + self.below(item):
            return
        self.children[self.parent(item)].remove(item)
        self.insert(item, parent, sibling)

    def drop(self, name, item):
        self.move(name, item, "bin", None)

    def write(self, name, item, behind, text):
        if item in self.texts:
            signs = self.texts[item]
            names = [sign[0] for sign in signs]
            at = names.index(behind) + 1 if behind in names else 0
            signs[at:at] = [[name + (k,), sign, True] for k, sign in enumerate(text)]

    def cut(self, name, item, first, many):
        for sign in self.texts.get(item, []):
            if sign[0][:2] == first[:2] and first[2] <= sign[0][2] < first[2] + many:
                sign[2] = False

    def set(self, name, item, place, number):
        if item in self.texts:
            self.numbers[item][place] = number

    def picture(self):
        told = {"root": self.children["root"], "bin": self.children["bin"]}
        for item, signs in self.texts.items():
            shown = [sign for sign in signs if sign[2]]
            told[item] = (self.parent(item), self.children[item], [sign[0] for sign in shown],
                          "".join(sign[1] for sign in shown), self.numbers[item])
        return told
