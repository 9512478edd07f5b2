"""Records: trees with the values of all their instances, which are taken over where a node is replaced."""

from scribeself.instances import Instances, Plan
from scribeself.solving import settle
from scribeself.trees import replaced


class Record:
    """A tree with the values of its instances. `computed` has the instances whose values were not taken over."""

    def __init__(self, plan, tree, known, computed):
        self.plan = plan
        self.tree = tree
        self.known = known
        self.computed = computed


def recorded(grammar, attributes, tree):
    """The record of a tree; raise what `solve` raises."""
    return made(Plan(grammar, attributes), tree, (), {})


def again(record, path, other):
    """The record of the tree with another node at a path; raise what `solve` raises."""
    return made(record.plan, replaced(record.tree, path, other), path, record.known)


def made(plan, tree, path, old):
    """The record of a tree of which the node at a path is new, by the old values."""
    instances = Instances(plan, tree)
    known = {}
    computed = []
    changed = [False for _ in instances.sites]
    for group in instances.groups():
        members = sorted([instances.sites[at].instance for at in group])
        if any([is_touched(instances, at, path, old, changed) for at in group]):
            settle(instances, group, known)
            computed.extend(members)
            for at in group:
                instance = instances.sites[at].instance
                changed[at] = instance not in old or old[instance] != known[instance]
        else:
            for instance in members:
                known[instance] = old[instance]
    return Record(plan, tree, known, computed)


def is_touched(instances, at, path, old, changed):
    """Whether an instance must be computed anew."""
    site = instances.sites[at]
    if site.instance not in old or is_at_or_above(path, site.instance[0]):
        return True
    if any([is_at_or_above(path_of_text(site.path, part), path) for part in site.equation.texts]):
        return True
    return any([changed[needed] for needed in instances.needs[at]])


def path_of_text(path, part):
    """The path of the node whose text a part of an expression reads, at the node with a path."""
    return path if part[0] == "text" else path + (part[1],)


def is_at_or_above(upper, path):
    """Whether the first path leads to the node at the second one, or to one above it."""
    return path[:len(upper)] == upper
