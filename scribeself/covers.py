"""Covers: how patterns of machine code are put together to the code of expressions and statements.

The different parts of an expression have numbers, those in it before it. A hole of a pattern stands for a thing:
`("part", n)` with the number of a part, or `("number", n)` with a number or a slot.
"""

from scribeself.errors import CoverError


def parts_in(expression):
    """The list of the different parts of an expression, with the numbers of their own parts; it comes last itself."""
    parts = []
    todo = [expression]
    while todo:
        part = todo.pop()
        parts.append(part)
        if part[0] not in ("num", "var"):
            todo.extend([part[1], part[2]])
    numbers = {}
    ready = []
    # From the end on, the parts of each part stand before it, the last one at the end of what is ready.
    for part in parts[::-1]:
        key = part
        if part[0] not in ("num", "var"):
            second = ready.pop()
            key = (part[0], ready.pop(), second)
        ready.append(numbers.setdefault(key, len(numbers)))
    return list(numbers)


def matched(tree, rows, at):
    """A dict from the holes of the tree of a pattern to their things, in the order of their first places.

    None if the tree is no term, or does not match the part with a number.
    """
    if not isinstance(tree, tuple) or tree[0] != "term":
        return None
    found = {}
    todo = [(tree, ("part", at))]
    while todo:
        part, thing = todo.pop()
        if not isinstance(part, tuple):
            if thing != ("number", part):
                return None
        elif part[0] == "hole":
            if found.setdefault(part[1], thing) != thing:
                return None
        elif thing[0] != "part" or part[1] != rows[thing[1]][0] or len(part[2]) != len(rows[thing[1]]) - 1:
            return None
        else:
            row = rows[thing[1]]
            kind = "number" if row[0] in ("num", "var") else "part"
            todo.extend([(inner, (kind, row[k + 1])) for k, inner in enumerate(part[2])][::-1])
    return found


def operands_of(things):
    """The numbers of the parts that are operands, by a dict from holes to things."""
    return [number for kind, number in things.values() if kind == "part"]


def best_choices(patterns, rows):
    """For each part the least cost, the index of the pattern at the top, and the operands, or None."""
    found = []
    for at in range(len(rows)):
        best = None
        for index, (cost, tree, _) in enumerate(patterns):
            things = matched(tree, rows, at)
            if things is not None and None not in [found[part] for part in operands_of(things)]:
                total = cost + sum([found[part][0] for part in operands_of(things)])
                if best is None or total < best[0]:
                    best = (total, index, operands_of(things))
        found.append(best)
    return found


def cover(patterns, expression):
    """The least cost, and the first cover with it; raise CoverError if there is none."""
    choices = best_choices(patterns, parts_in(expression))
    if choices[-1] is None:
        raise CoverError("the expression has no cover")
    covers = []
    for choice in choices:
        if choice is None:
            covers.append(None)
        else:
            covers.append((choice[1], [covers[part] for part in choice[2]]))
    return choices[-1][0], covers[-1]


def cover_cost(patterns, expression, told):
    """The cost of a told cover of an expression, or None if it is none."""
    rows = parts_in(expression)
    total = 0
    todo = [(len(rows) - 1, told)]
    while todo:
        at, (index, covers) = todo.pop()
        if not 0 <= index < len(patterns):
            return None
        things = matched(patterns[index][1], rows, at)
        if things is None or len(operands_of(things)) != len(covers):
            return None
        total += patterns[index][0]
        todo.extend(list(zip(operands_of(things), covers)))
    return total


class Coder:
    """Code that is made. `count` is the number of the registers that it has."""

    def __init__(self, patterns):
        self.code = []
        self.count = 0
        self.patterns = list(patterns)

    def expression(self, expression, told):
        """Append the code of an expression by a cover; return the register of its value."""
        rows = parts_in(expression)
        ready = []
        todo = [("cover", len(rows) - 1, told)]
        while todo:
            kind, what, more = todo.pop()
            if kind == "cover":
                index, covers = more
                things = matched(self.patterns[index][1], rows, what)
                todo.append(("emit", index, things))
                todo.extend([("cover", part, inner) for part, inner in zip(operands_of(things), covers)][::-1])
            else:
                first = len(ready) - len(operands_of(more))
                found = self.emit(self.patterns[what][2], more, ready[first:])
                del ready[first:]
                ready.append(found)
        return ready[0]

    def emit(self, instructions, things, operands):
        """Append the instructions of a pattern; return the register for the hole `out`."""
        told = list(operands)
        known = {}
        for name in things:
            known[name] = told.pop(0) if things[name][0] == "part" else things[name][1]
        for _, name, parts in instructions:
            self.code.append(tuple([name] + [self.filled(part, known) for part in parts]))
        return self.filled(("hole", "out"), known)

    def filled(self, part, known):
        """A part of an instruction of a pattern, with what its holes stand for; a hole not known is a new register."""
        if not isinstance(part, tuple):
            return part
        if part[1] not in known:
            known[part[1]] = self.count
            self.count += 1
        return known[part[1]]


def compiled(patterns, statement):
    """The code of a statement; raise CoverError if an expression in it has no cover."""
    coder = Coder(patterns)
    labels = 0
    todo = [statement]
    while todo:
        part = todo.pop()
        kind = part[0]
        if kind in ("label", "jump"):
            coder.code.append(part)
        elif kind == "set":
            coder.code.append(("st", coded(coder, part[2]), part[1]))
        elif kind == "show":
            coder.code.append(("show", coded(coder, part[1])))
        elif kind == "seq":
            todo.extend([part[2], part[1]])
        elif kind in ("when", "loop"):
            todo.extend(branched(coder, part, labels)[::-1])
            labels += 2
    return coder.code + [("halt",)]


def coded(coder, expression):
    """Append the code of an expression by its least cover; return the register of its value."""
    _, told = cover(coder.patterns, expression)
    return coder.expression(expression, told)


def branched(coder, statement, label):
    """Append the test of "when" or "loop" with two labels from one on; return what follows."""
    after = label + 1
    if statement[0] == "when":
        coder.code.append(("jz", coded(coder, statement[1]), label))
        return [statement[2], ("jump", after), ("label", label), statement[3], ("label", after)]
    coder.code.append(("label", label))
    coder.code.append(("jz", coded(coder, statement[1]), after))
    return [statement[2], ("jump", label), ("label", after)]
