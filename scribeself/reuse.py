"""Readings of texts, which are taken over up to the place of an edit, and the nodes that an edit keeps."""

from scribeself.charts import Tables, charted
from scribeself.edits import applied
from scribeself.places import Forest, Sieve
from scribeself.trees import nodes


class Reading:
    """What is known of a text that was read. `made` is the number of positions that were treated for it."""

    def __init__(self, tables, sieve, text, known):
        self.text = text
        self.made = len(text) + 1 - len(known)
        self.tables = tables
        self.sieve = sieve
        self.columns = charted(tables, text, known)
        self.forest = None

    def tree(self, number):
        """The tree with a number; raise TreeError if there is none."""
        return self.grown().tree(number)

    def total(self):
        """The number of the trees of the text."""
        return self.grown().total()

    def grown(self):
        """The forest, which is made when it is first asked for."""
        if self.forest is None:
            self.forest = Forest(self.tables, self.sieve, self.text, self.columns)
        return self.forest


def read(grammar, filters, text):
    """The reading of a text."""
    return Reading(Tables(grammar), Sieve(filters), text, [])


def read_again(reading, edit):
    """The reading of the text after an edit; raise EditError if the edit does not fit."""
    text = applied(reading.text, edit)
    return Reading(reading.tables, reading.sieve, text, reading.columns[:edit[0]])


def kept(old, new, edit):
    """The pairs of the paths of the kept nodes, in the old and in the new tree, that lie below no other kept node."""
    numbers = {}
    places = {}
    told = tree_numbers(old, numbers)
    for (path, _, start, end), number in zip(nodes(old), told):
        place = moved_stretch(edit, start, end)
        if place is not None:
            places.setdefault((place, number), path)
    pairs = []
    above = None
    for (path, _, start, end), number in zip(nodes(new), tree_numbers(new, numbers)):
        key = ((start, end), number)
        if key in places and (above is None or path[:len(above)] != above):
            above = path
            pairs.append((places[key], path))
    return pairs


def moved_stretch(edit, start, end):
    """The stretch after an edit of a node beside the edit, or None for a node that the edit may change."""
    at, removed, text = edit
    if end <= at:
        return (start, end)
    if start >= at + removed:
        return (start + len(text) - removed, end + len(text) - removed)
    return None


def tree_numbers(tree, numbers):
    """A number for each node, in the order of `nodes`; by a dict that is filled, equal trees get the same number."""
    parts = []
    todo = [tree]
    while todo:
        part = todo.pop()
        parts.append(part)
        todo.extend([kid for kid in part[2] if not isinstance(kid, str)][::-1])
    told = []
    ready = []
    for _, rule, kids in parts[::-1]:
        # The numbers of the kids are the last ones, that of the first kid at the end.
        key = [rule]
        for kid in kids:
            key.append(kid if isinstance(kid, str) else ready.pop())
        told.append(numbers.setdefault(tuple(key), len(numbers)))
        ready.append(told[-1])
    return told[::-1]
