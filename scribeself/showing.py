"""How a desk shows trees, values and statements."""

from scribeself.folding import folded
from scribeself.phrases import in_round, written_constant
from scribeself.quoting import quoted


def shown_text(text):
    """A text as a literal."""
    return quoted("'", text, "'")


def shown_tree(tree, labels):
    """A tree, with the labels of its rules."""
    def joined(part, words):
        """A node by its kids, or a text."""
        return shown_text(part) if isinstance(part, str) else in_round([labels[part[1]]] + words)

    return folded(tree, kids_of, joined)


def kids_of(part):
    """The kids of a node."""
    return [] if isinstance(part, str) else part[2]


def shown_value(value):
    """A value."""
    return folded(value, parts_of_value, joined_value)


def parts_of_value(value):
    """The values in a list or a term."""
    if isinstance(value, list):
        return value
    return value[2] if isinstance(value, tuple) else []


def joined_value(value, words):
    """A value, by those in it."""
    if isinstance(value, list):
        return "[" + " ".join(words) + "]"
    return in_round([value[1]] + words) if isinstance(value, tuple) else written_constant(value)


def shown_statement(statement):
    """A statement of the middle language."""
    return folded(statement, parts_of_tuple, joined_tuple)


def parts_of_tuple(part):
    """The parts of a tuple behind its name."""
    return list(part[1:]) if isinstance(part, tuple) else []


def joined_tuple(part, words):
    """A tuple by its parts, or a number."""
    return in_round([part[0]] + words) if isinstance(part, tuple) else str(part)


def shown_numbers(numbers):
    """The line of what is shown by a run."""
    return " ".join(["shows"] + [str(number) for number in numbers])
