"""The judge of patterns of covers: whether the instructions of a pattern surely give what its tree means.

A polynomial is an ascending tuple of pairs of a product and its coefficient from 1 to 2**32 - 1. A product is an
ascending tuple of the numbers of unknowns; it is empty for the constant.
"""

from scribeself.errors import CoverError

MODULUS = 4294967296
MOST_PRODUCTS = 60
MOST_UNKNOWNS = 8
LAST_SLOT = 15
OPERATIONS = ("add", "sub", "mul", "less", "same")

# What the parts of the terms of a tree stand for.
TREES = {
    "num": ("number",),
    "var": ("slot",),
    "add": ("operand", "operand"),
    "sub": ("operand", "operand"),
    "mul": ("operand", "operand"),
    "less": ("operand", "operand"),
    "same": ("operand", "operand"),
}

# The kinds of the parts of instructions.
INSTRUCTIONS = {
    "li": ("goal", "number"),
    "mov": ("goal", "read"),
    "ld": ("goal", "slot"),
    "op": ("operation", "goal", "read", "read"),
}


def check_pattern(pattern):
    """Return None if the judge takes a pattern, otherwise raise CoverError."""
    cost, tree, instructions = pattern
    if cost < 0 or not is_term(tree):
        raise CoverError("a pattern has a cost below 0, or a tree that is no term")
    judge = Judge(roles_of(tree))
    wanted = judge.meaning_of(tree)
    for _, name, parts in instructions:
        judge.perform(name, parts)
    if judge.found.get("out") != wanted:
        raise CoverError("a pattern does not give what its tree means")


def is_term(part):
    """Whether a part of a pattern is a term."""
    return isinstance(part, tuple) and part[0] == "term"


def is_hole(part):
    """Whether a part of a pattern is a hole."""
    return isinstance(part, tuple) and part[0] == "hole"


def is_constant(part, kind):
    """Whether a part of a pattern is an integer that can be a number or a slot."""
    return isinstance(part, int) and (kind == "number" or (kind == "slot" and 0 <= part <= LAST_SLOT))


def roles_of(tree):
    """A dict from the holes of a tree to what they stand for; raise CoverError if the tree is not as it must be."""
    roles = {}
    todo = [(tree, "operand")]
    while todo:
        part, role = todo.pop()
        if is_hole(part):
            if part[1] == "out" or roles.setdefault(part[1], role) != role:
                raise CoverError("a hole is called out, or stands for several kinds of things")
        elif is_term(part) and role == "operand":
            kinds = TREES.get(part[1], ())
            if len(kinds) != len(part[2]) or len(kinds) == 0:
                raise CoverError("a tree has a wrong term")
            todo.extend(list(zip(part[2], kinds)))
        elif not is_constant(part, role):
            raise CoverError("a tree has a wrong part")
    return roles


class Judge:
    """What is known of the holes of a pattern: their roles in its tree, and the polynomials of those that are set."""

    def __init__(self, roles):
        self.roles = roles
        self.found = {}
        self.unknowns = {}

    def unknown(self, key):
        """The polynomial of an unknown."""
        number = self.unknowns.setdefault(key, len(self.unknowns))
        return (((number,), 1),)

    def leaf(self, kind, part):
        """The polynomial of a number, or of the value of a slot."""
        if kind == "number" and isinstance(part, int):
            return tidy({(): part})
        return self.unknown((kind, part if isinstance(part, int) else part[1]))

    def operated(self, name, first, second):
        """The polynomial of an operation on two polynomials."""
        if name == "add":
            return summed(first, second, 1)
        if name == "sub":
            return summed(first, second, -1)
        return multiplied(first, second) if name == "mul" else self.unknown((name, first, second))

    def meaning_of(self, tree):
        """The polynomial of a tree that has been looked through."""
        todo = [tree]
        ready = []
        while todo:
            part = todo.pop()
            kind, name = part[:2]
            if kind == "hole":
                ready.append(self.unknown(("operand", name)))
            elif kind == "apply":
                second = ready.pop()
                ready.append(self.operated(name, ready.pop(), second))
            elif name in ("num", "var"):
                ready.append(self.leaf(TREES[name][0], part[2][0]))
            else:
                todo.extend([("apply", name), part[2][1], part[2][0]])
        return ready[0]

    def perform(self, name, parts):
        """Set a hole as an instruction does; raise CoverError if the instruction is not as it must be."""
        kinds = INSTRUCTIONS.get(name, ())
        if len(kinds) != len(parts) or len(kinds) == 0:
            raise CoverError("a pattern has a wrong instruction")
        for kind, part in zip(kinds, parts):
            if not self.is_fine(kind, part):
                raise CoverError("an instruction of a pattern has a wrong part")
        if name == "op":
            self.found[parts[1][1]] = self.operated(parts[0], self.value(parts[2][1]), self.value(parts[3][1]))
        elif name == "mov":
            self.found[parts[0][1]] = self.value(parts[1][1])
        else:
            self.found[parts[0][1]] = self.leaf(kinds[1], parts[1])

    def is_fine(self, kind, part):
        """Whether a part of an instruction is one of the kind."""
        if kind == "operation":
            return isinstance(part, str) and part in OPERATIONS
        if not is_hole(part):
            return is_constant(part, kind)
        if kind == "goal":
            return part[1] not in self.roles
        if kind == "read":
            return part[1] in self.found or self.roles.get(part[1]) == "operand"
        return self.roles.get(part[1]) == kind

    def value(self, name):
        """The polynomial of a hole that is read."""
        return self.found[name] if name in self.found else self.unknown(("operand", name))


def summed(first, second, sign):
    """The sum of two polynomials, or their difference if the sign is -1."""
    sums = {product: factor for product, factor in first}
    for product, factor in second:
        sums[product] = sums.get(product, 0) + sign * factor
    return tidy(sums)


def multiplied(first, second):
    """The product of two polynomials."""
    sums = {}
    for one, factor in first:
        for two, other in second:
            product = tuple(sorted(one + two))
            sums[product] = sums.get(product, 0) + factor * other
    return tidy(sums)


def tidy(sums):
    """The polynomial with some coefficients; raise CoverError if it is too large."""
    rows = [(product, sums[product] % MODULUS) for product in sorted(sums)]
    rows = [(product, factor) for product, factor in rows if factor != 0]
    if len(rows) > MOST_PRODUCTS or any([len(product) > MOST_UNKNOWNS for product, _ in rows]):
        raise CoverError("a polynomial of a pattern is too large")
    return tuple(rows)
