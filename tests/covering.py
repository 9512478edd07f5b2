"""Patterns of covers by chance, and slow but plain ways to find covers and their code."""

from middle import EDGES, NAMES


def term(name, *parts):
    return ("term", name, list(parts))


def hole(name):
    return ("hole", name)


def op(name, goal, one, two):
    return term("op", name, hole(goal), hole(one), hole(two))


# A pattern for each kind of expression.
BASE = [(1, term("num", hole("n")), [term("li", hole("out"), hole("n"))]),
        (2, term("var", hole("s")), [term("ld", hole("out"), hole("s"))])]
BASE += [(1, term(name, hole("a"), hole("b")), [op(name, "out", "a", "b")]) for name in NAMES]


def some_tree(chance, deep, top=True):
    """A tree of a pattern; `a` to `c` are operands, `m` and `n` numbers, and `s` a slot."""
    choice = chance.random()
    if not top and (not deep or choice < 0.4):
        return hole(chance.choice("abc"))
    if choice < 0.55:
        return term("num", hole(chance.choice("mn")) if chance.random() < 0.6 else chance.choice(EDGES))
    if choice < 0.7:
        return term("var", hole("s") if chance.random() < 0.5 else chance.randrange(4))
    return term(chance.choice(NAMES), some_tree(chance, deep - 1, False), some_tree(chance, deep - 1, False))


def straight_code(tree):
    """Instructions that give what a tree means, part after part, and then a copy to `out`."""
    found = []

    def coded(part):
        if part[0] == "hole":
            return part
        goal = hole("t" + str(len(found)))
        if part[1] in ("num", "var"):
            found.append(term("li" if part[1] == "num" else "ld", goal, part[2][0]))
        else:
            one, two = coded(part[2][0]), coded(part[2][1])
            goal = hole("t" + str(len(found)))
            found.append(term("op", part[1], goal, one, two))
        return goal

    last = coded(tree)
    return found + [term("mov", hole("out"), last)]


def some_patterns(chance, base=True):
    found = []
    for _ in range(chance.randint(1, 6)):
        tree = some_tree(chance, chance.randint(1, 2))
        found.append((chance.randint(0, 3), tree, straight_code(tree)))
    found += BASE if base else []
    chance.shuffle(found)
    return found


def plain_match(tree, thing, found):
    """Match a tree with an expression, or the part of "num" or "var" with its number; the holes come in their order."""
    if isinstance(tree, int):
        return tree == thing
    if tree[0] == "hole":
        if tree[1] not in found:
            found[tree[1]] = thing
        return found[tree[1]] == thing
    return (isinstance(thing, tuple) and tree[1] == thing[0] and len(tree[2]) == len(thing) - 1
            and all(plain_match(part, other, found) for part, other in zip(tree[2], thing[1:])))


def plain_operands(pattern, expression):
    """The expressions at the operands of a pattern, or None if it does not match or is no term."""
    found = {}
    if pattern[1][0] != "term" or not plain_match(pattern[1], expression, found):
        return None
    return [thing for thing in found.values() if isinstance(thing, tuple)]


def plain_cover(patterns, expression):
    """The least cost and the first cover with it, or None."""
    best = None
    for index, pattern in enumerate(patterns):
        operands = plain_operands(pattern, expression)
        covers = None if operands is None else [plain_cover(patterns, part) for part in operands]
        if covers is not None and None not in covers:
            cost = pattern[0] + sum(found[0] for found in covers)
            if best is None or cost < best[0]:
                best = (cost, (index, [found[1] for found in covers]))
    return best


def some_cover(chance, patterns, expression):
    """Any cover of an expression by chance, and its cost."""
    fitting = [index for index, pattern in enumerate(patterns) if plain_operands(pattern, expression) is not None]
    index = chance.choice(fitting)
    covers = [some_cover(chance, patterns, part) for part in plain_operands(patterns[index], expression)]
    return patterns[index][0] + sum(cost for cost, _ in covers), (index, [told for _, told in covers])


class PlainCoder:
    """The code of expressions by covers, word by word as it is told."""

    def __init__(self, patterns):
        self.patterns, self.code, self.count = patterns, [], 0

    def expression(self, expression, told):
        _, tree, instructions = self.patterns[told[0]]
        holes = {}
        plain_match(tree, expression, holes)
        covers = iter(told[1])
        for name, thing in holes.items():
            if isinstance(thing, tuple):
                holes[name] = self.expression(thing, next(covers))
        for _, name, parts in instructions:
            for part in parts:
                if isinstance(part, tuple) and part[1] not in holes:
                    holes[part[1]] = self.count
                    self.count += 1
            self.code.append((name,) + tuple(holes[part[1]] if isinstance(part, tuple) else part for part in parts))
        return holes["out"]

    def statement(self, part, labels):
        """Append the code of a statement, with labels from a number on; return the next number."""
        if part[0] in ("set", "show"):
            value = self.least(part[-1])
            self.code.append(("st", value, part[1]) if part[0] == "set" else ("show", value))
        elif part[0] == "seq":
            labels = self.statement(part[2], self.statement(part[1], labels))
        elif part[0] == "when":
            m, n = labels, labels + 1
            self.code.append(("jz", self.least(part[1]), m))
            labels = self.statement(part[2], n + 1)
            self.code += [("jump", n), ("label", m)]
            labels = self.statement(part[3], labels)
            self.code.append(("label", n))
        elif part[0] == "loop":
            m, n = labels, labels + 1
            self.code.append(("label", m))
            self.code.append(("jz", self.least(part[1]), n))
            labels = self.statement(part[2], n + 1)
            self.code += [("jump", m), ("label", n)]
        return labels

    def least(self, expression):
        return self.expression(expression, plain_cover(self.patterns, expression)[1])
