"""Whether an instance can need itself in some tree, told for all trees at once.

A place of a rule is an attribute of its left name or of a kid, written as a target of an equation.
"""

from scribeself.errors import CycleError
from scribeself.values import references


def orders(grammar, attributes):
    """A dict from the names that have pairs to the ascending lists of their pairs (upper, lower)."""
    found = collected(grammar[2], given_in(grammar, attributes))
    return {name: sorted(found[name]) for name in sorted(found)}


def check_order(grammar, attributes):
    """Return None, or raise CycleError with the first rule and its least target that may need itself."""
    rules = grammar[2]
    given = given_in(grammar, attributes)
    found = collected(rules, given)
    for at, rule in enumerate(rules):
        below = needs_in(rule[3], given[at], found)
        faults = sorted([target for target in given[at] if target in needed_by(target, below)])
        if faults:
            raise CycleError((at, faults[0]))


def given_in(grammar, attributes):
    """For each rule a dict from the targets of its equations to the lists of the references in them."""
    given = [{} for _ in grammar[2]]
    for _, rule, target, expression in attributes[3]:
        given[rule][target] = references(expression)
    return given


def collected(rules, given):
    """A dict from the names that have pairs to dicts with their pairs."""
    found = {}
    growing = True
    while growing:
        growing = False
        for (_, left, _, symbols), targets in zip(rules, given):
            below = needs_in(symbols, targets, found)
            for pair in pairs_of(targets, below):
                if pair not in found.setdefault(left, {}):
                    found[left][pair] = True
                    growing = True
    return found


def needs_in(symbols, targets, found):
    """A dict from the places of a rule with some symbols to the lists of those that they may need at once."""
    below = {target: list(targets[target]) for target in targets}
    for kid, (kind, word) in enumerate(symbols):
        if kind == "nt":
            for upper, lower in found.get(word, {}):
                below.setdefault(("kid", kid, upper), []).append(("kid", kid, lower))
    return below


def pairs_of(targets, below):
    """The pairs of attributes of the left name that a rule gives."""
    pairs = []
    for target in targets:
        if target[0] == "own":
            lowers = [place[1] for place in needed_by(target, below) if place[0] == "own"]
            pairs.extend([(target[1], lower) for lower in lowers])
    return pairs


def needed_by(place, below):
    """A dict of the places that a place may need, also through others."""
    found = {}
    todo = list(below.get(place, []))
    while todo:
        other = todo.pop()
        if other not in found:
            found[other] = True
            todo.extend(below.get(other, []))
    return found
