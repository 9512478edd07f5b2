"""A slow but plain judge of patterns, with polynomials as dicts from tuples of words to numbers, and patterns by chance."""

from covering import hole, op, some_tree, straight_code, term
from middle import EDGES, NAMES


class Refused(Exception):
    pass


def tidied(polynomial):
    found = {key: n % 2 ** 32 for key, n in polynomial.items() if n % 2 ** 32}
    if len(found) > 60 or any(len(key) > 8 for key in found):
        raise Refused
    return found


def written(polynomial):
    return str(sorted(polynomial.items()))


def operated(name, one, two):
    if name in ("less", "same"):
        return {(name + "(" + written(one) + ";" + written(two) + ")",): 1}
    found = {}
    if name == "mul":
        for key, n in one.items():
            for other, m in two.items():
                both = tuple(sorted(key + other))
                found[both] = found.get(both, 0) + n * m
    else:
        for key in {**one, **two}:
            found[key] = one.get(key, 0) + (two.get(key, 0) if name == "add" else -two.get(key, 0))
    return tidied(found)


def need(fine):
    if not fine:
        raise Refused


def kind_of(part):
    return "int" if isinstance(part, int) else "str" if isinstance(part, str) else part[0]


class PlainJudge:
    def __init__(self, pattern):
        cost, tree, instructions = pattern
        need(cost >= 0 and kind_of(tree) == "term")
        self.roles, self.set = {}, {}
        wanted = self.meant(tree, "operand")
        for _, name, parts in instructions:
            self.perform(name, parts)
        need("out" in self.set and self.set["out"] == wanted)

    def hole(self, name, role):
        need(name != "out" and self.roles.setdefault(name, role) == role)
        return {(role + " " + name,): 1}

    def leaf(self, part, role):
        """A number, or the value of a slot."""
        if kind_of(part) == "hole":
            return self.hole(part[1], role)
        need(kind_of(part) == "int" and (role == "number" or 0 <= part <= 15))
        return tidied({(): part}) if role == "number" else {("slot " + str(part),): 1}

    def meant(self, part, role):
        if kind_of(part) == "hole":
            return self.hole(part[1], role)
        need(kind_of(part) == "term")
        _, name, parts = part
        if name in ("num", "var"):
            need(len(parts) == 1)
            return self.leaf(parts[0], "number" if name == "num" else "slot")
        need(name in NAMES and len(parts) == 2)
        return operated(name, self.meant(parts[0], "operand"), self.meant(parts[1], "operand"))

    def read(self, part):
        need(kind_of(part) == "hole")
        if part[1] in self.set:
            return self.set[part[1]]
        need(self.roles.get(part[1]) == "operand")
        return self.hole(part[1], "operand")

    def goal(self, part):
        need(kind_of(part) == "hole" and part[1] not in self.roles)
        return part[1]

    def perform(self, name, parts):
        need((name, len(parts)) in [("li", 2), ("mov", 2), ("ld", 2), ("op", 4)])
        if name == "op":
            need(kind_of(parts[0]) == "str" and parts[0] in NAMES)
            value = operated(parts[0], self.read(parts[2]), self.read(parts[3]))
        elif name == "mov":
            value = self.read(parts[1])
        else:
            role = "number" if name == "li" else "slot"
            need(kind_of(parts[1]) != "hole" or self.roles.get(parts[1][1]) == role)
            value = self.leaf(parts[1], role)
        self.set[self.goal(parts[1 if name == "op" else 0])] = value


def is_taken(pattern):
    try:
        PlainJudge(pattern)
    except Refused:
        return False
    return True


def some_judged(chance):
    """A pattern of a small tree, whose code is often right, with some parts that are changed by chance."""
    tree = some_tree(chance, chance.randint(1, 2))
    if chance.random() < 0.5:
        left, right = some_tree(chance, 1, False), some_tree(chance, 1, False)
        tree = term(chance.choice(["add", "mul", "sub"]), left, right)
    code = straight_code(same_meaning(chance, tree) if chance.random() < 0.7 else tree)
    if chance.random() < 0.4:
        code = changed_code(chance, code)
    return (chance.choice([0, 0, 1, 3, -1]) if chance.random() < 0.1 else 1, tree, code)


def same_meaning(chance, tree):
    """Another tree that means the same by the laws of sums and products."""
    if tree[0] != "term" or tree[1] in ("num", "var"):
        return tree
    name, one, two = tree[1], same_meaning(chance, tree[2][0]), same_meaning(chance, tree[2][1])
    choice = chance.random()
    if name in ("add", "mul") and choice < 0.4:
        return term(name, two, one)
    if name == "mul" and choice < 0.7 and two[0] == "term" and two[1] in ("add", "sub"):
        return term(two[1], term("mul", one, two[2][0]), term("mul", one, two[2][1]))
    if name == "sub" and choice < 0.5:
        return term("add", one, term("mul", term("num", -1), two))
    if name == "add" and choice < 0.6:
        return term("sub", one, term("sub", term("num", 2 ** 31), term("add", two, term("num", -2 ** 31))))
    return term(name, one, two)


def changed_code(chance, code):
    code = [term(name, *parts) for _, name, parts in code]
    parts = chance.choice(code)[2]
    parts[chance.randrange(len(parts))] = chance.choice([hole(chance.choice(["a", "b", "n", "s", "t0", "t1", "out"])), chance.choice(EDGES), chance.choice(NAMES)])
    if chance.random() < 0.3:
        code.pop(chance.randrange(len(code)))
    if chance.random() < 0.2:
        code.append(op(chance.choice(NAMES), chance.choice(["x", "out", "a"]), chance.choice(["a", "t0", "out"]), "out"))
    return code
