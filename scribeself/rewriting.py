"""Rewriting of values by rules, from the inside and from left to right."""

from scribeself.errors import FuelError

MOST_STEPS = 400


def rules_fit(rules):
    """Whether each left pattern is a term, and the right one has only holes of the left one."""
    for left, right in rules:
        if not is_term(left):
            return False
        known = holes_of(left)
        if not all([name in known for name in holes_of(right)]):
            return False
    return True


def is_term(part):
    """Whether a part of a pattern or a value is a term."""
    return isinstance(part, tuple) and part[0] == "term"


def is_hole(part):
    """Whether a part of a pattern is a hole."""
    return isinstance(part, tuple) and part[0] == "hole"


def holes_of(pattern):
    """A dict of the names of the holes of a pattern."""
    found = {}
    todo = [pattern]
    while todo:
        part = todo.pop()
        if is_hole(part):
            found[part[1]] = True
        elif is_term(part):
            todo.extend(part[2])
    return found


def matched(pattern, value):
    """A dict from the holes of a pattern to what they match in a value, or None if the pattern does not match it."""
    found = {}
    todo = [(pattern, value)]
    while todo:
        part, other = todo.pop()
        if is_hole(part):
            if found.setdefault(part[1], other) != other:
                return None
        elif not is_term(part):
            if part != other:
                return None
        elif not is_term(other) or part[1] != other[1] or len(part[2]) != len(other[2]):
            return None
        else:
            todo.extend(list(zip(part[2], other[2])))
    return found


def step(rules, value):
    """The value after a step, or None if there is none."""
    after, steps = rewritten(rules, value, 1)
    return after if steps == 1 else None


def normal(rules, value):
    """The normal form of a value; raise FuelError if it takes too many steps."""
    after, steps = rewritten(rules, value, MOST_STEPS + 1)
    if steps > MOST_STEPS:
        raise FuelError("the value takes too many steps")
    return after


def rewritten(rules, value, most):
    """The value after as many steps as there are, but at most some, and their number.

    A term is made when its parts are, so the first place of each step is the term that is made then. What holes match
    is done already; only the terms of a right pattern are new. What is left to do is kept in a list, as values may be
    deep.
    """
    todo = [("part", value, {})]
    ready = []
    steps = 0
    while todo:
        kind, part, more = todo.pop()
        if kind == "part" and is_term(part):
            todo.append(("make", part[1], len(part[2])))
            todo.extend([("part", inner, more) for inner in part[2]][::-1])
        elif kind == "part":
            ready.append(more[part[1]] if is_hole(part) else part)
        else:
            first = len(ready) - more
            made = ("term", part, ready[first:])
            del ready[first:]
            rule = first_rule(rules, made) if steps < most else None
            if rule is None:
                ready.append(made)
            else:
                steps += 1
                todo.append(("part", rule[0], rule[1]))
    return ready[0], steps


def first_rule(rules, value):
    """The right pattern of the first rule that matches a value and what its holes match, or None if none does."""
    for left, right in rules:
        found = matched(left, value)
        if found is not None:
            return right, found
    return None
