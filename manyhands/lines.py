"""The line of an operation, and the operation that a line writes."""

from manyhands.errors import NoDeed
from manyhands.names import is_operation


def word_of(part):
    if part is None:
        return "-"
    if isinstance(part, tuple):
        return ".".join([str(number) for number in part])
    return str(part)


def shown(operation):
    """The line of an operation."""
    return " ".join([word_of(part) for part in operation[:3] + operation[3]])


def number_of(word):
    try:
        number = int(word)
    except ValueError:
        raise NoDeed(f"no number: {word!r}") from None
    return number


def part_of(word):
    if word == "-":
        return None
    if word == "root" or word == "bin":
        return word
    if "." in word:
        return tuple([number_of(figures) for figures in word.split(".")])
    return number_of(word)


def deed_of(words):
    # A written text may look like a number or like None, so it is not read as a part.
    end = 3 if words[:1] == ["write"] else len(words)
    return tuple(words[:1] + [part_of(word) for word in words[1:end]] + words[end:])


def read(line):
    """The operation that a line writes; NoDeed where it writes none."""
    # No deed has more parts than a write, and behind the sixth blank blanks are a text's own.
    words = line.split(" ", 6)
    operation = tuple([number_of(word) for word in words[:3]] + [deed_of(words[3:])])
    # Python reads numbers in other forms too (`007`, `+1`, `1_0`); shown knows the one that counts.
    if not is_operation(operation) or shown(operation) != line:
        raise NoDeed(f"no operation: {line!r}")
    return operation
