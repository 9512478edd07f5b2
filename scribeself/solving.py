"""The values of all instances of a tree."""

from scribeself.errors import CycleError, EquationError
from scribeself.instances import Instances, Plan

GREATEST = 1000
MOST_ITEMS = 200


def solve(grammar, attributes, tree):
    """A dict from the instances of a tree to their values; raise EquationError, CycleError or ValueFault."""
    instances = Instances(Plan(grammar, attributes), tree)
    known = {}
    for group in instances.groups():
        settle(instances, group, known)
    return known


def settle(instances, group, known):
    """Find the values of a group, when those of all instances that it needs beside itself are known."""
    sites = [instances.sites[at] for at in group]
    circular = instances.needs_itself(group)
    if "once" not in [site.equation.kind for site in sites]:
        settle_in_rounds(instances, group, known, circular)
    elif circular:
        raise CycleError(sorted([site.instance for site in sites]))
    else:
        known[sites[0].instance] = instances.value(group[0], known)


def settle_in_rounds(instances, group, known, circular):
    """Find the least values of a group of the kinds "most" and "all"."""
    for at in group:
        site = instances.sites[at]
        known[site.instance] = 0 if site.equation.kind == "most" else []
    while one_round(instances, group, known):
        # A second round would find the same values where nothing needs itself.
        if not circular:
            return


def one_round(instances, group, known):
    """Give the instances of a group their new values; tell whether one of them is another one than before."""
    changed = False
    for at in group:
        site = instances.sites[at]
        old = known[site.instance]
        told = instances.value(at, known)
        new = more_of(told, old) if site.equation.kind == "most" else all_of(told, old)
        changed = changed or new != old
        known[site.instance] = new
    return changed


def more_of(told, old):
    """The new value of the kind "most"; raise EquationError if it is no integer or less than the old one."""
    if not isinstance(told, int) or told < old:
        raise EquationError("a value is no integer, or less than before")
    return min(told, GREATEST)


def all_of(told, old):
    """The new value of the kind "all"; raise EquationError if it is not a list of the kind, or has lost an item."""
    if not isinstance(told, list) or not all([isinstance(item, (int, str)) for item in told]):
        raise EquationError("a value is no list of integers and strings")
    numbers = sorted({item for item in told if isinstance(item, int)})
    new = numbers + sorted({item for item in told if isinstance(item, str)})
    if len(new) > MOST_ITEMS:
        raise EquationError("a value has too many items")
    if not all([item in new for item in old]):
        raise EquationError("a value has lost an item")
    return new
