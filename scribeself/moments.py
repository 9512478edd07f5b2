"""Moments: a text that was read, with its first tree and its values, which are kept up to date from edit to edit."""

from scribeself.errors import CycleError, EquationError, ValueFault
from scribeself.records import again, recorded
from scribeself.reuse import tree_numbers
from scribeself.trees import nodes, subtree


class Moment:
    """What is known of a text that was read, by the moment before the last edit, if there is one.

    The tree and the record are None if there is none; `fault` then names the error that tells why. `many` is the number
    of the instances that were computed.
    """

    def __init__(self, description, reading, before):
        self.reading = reading
        self.tree = None
        self.record = None
        self.many = 0
        self.fault = ""
        if reading.total() == 0:
            self.fault = "TreeError"
        else:
            self.tree = reading.tree(0)
            self.find_values(description, before)

    def find_values(self, description, before):
        """Find the values of the tree, or the name of the error that they have."""
        try:
            self.settle(description, before)
        except EquationError:
            self.fault = "EquationError"
        except CycleError:
            self.fault = "CycleError"
        except ValueFault:
            self.fault = "ValueFault"

    def settle(self, description, before):
        """Take over the values of the moment before as far as possible, and compute the others."""
        if before is None or before.record is None:
            self.record = recorded(description[1], description[3], self.tree)
            self.many = len(self.record.computed)
            return
        path = path_of_change(before.tree, self.tree)
        if path is None:
            self.record = before.record
        else:
            self.record = again(before.record, path, subtree(self.tree, path))
            self.many = len(self.record.computed)


def path_of_change(old, new):
    """The longest path such that two trees differ only at it or below it, or None if they are equal."""
    numbers = {}
    one, other = numbers_by_path(old, numbers), numbers_by_path(new, numbers)
    if one[()] == other[()]:
        return None
    path = ()
    while True:
        kid = only_change(subtree(old, path), subtree(new, path), path, one, other)
        if kid is None:
            return path
        path = path + (kid,)


def numbers_by_path(tree, numbers):
    """A dict from the paths of the nodes of a tree to their numbers, which are the same for equal trees."""
    return {node[0]: number for node, number in zip(nodes(tree), tree_numbers(tree, numbers))}


def only_change(old, new, path, one, other):
    """The index of the only kid in which two nodes at a path differ, if it is a node and their rules are the same."""
    if old[1] != new[1]:
        return None
    changed = []
    for k, kid in enumerate(old[2]):
        if isinstance(kid, str):
            if kid != new[2][k]:
                return None
        elif one[path + (k,)] != other[path + (k,)]:
            changed.append(k)
    return changed[0] if len(changed) == 1 else None
