"""Grammars with attributes and trees by chance, and slow but plain ways to find the values of their instances."""

from scribeself.equations import check
from scribeself.trees import nodes, subtree
from scribeself.values import parts_of, value_of

NAMES = ["s", "a", "b"]


def some_rules(chance):
    """Rules for each name, the first one of each without kids that are names."""
    rules = []
    for name in NAMES:
        rules.append(("rule", name, name + "0", [("lit", chance.choice("xyz"))]))
        for k in range(chance.randint(1, 2)):
            kids = [("nt", chance.choice("ab")) for _ in range(chance.randint(1, 2))]
            rules.append(("rule", name, name + str(k + 1), [("lit", "(")] + kids))
    return rules


def some_tree(chance, rules, name, deep):
    fitting = [at for at, rule in enumerate(rules) if rule[1] == name and (deep > 0 or len(rule[3]) == 1)]
    at = chance.choice(fitting)
    return ("node", at, [word if kind == "lit" else some_tree(chance, rules, word, deep - 1) for kind, word in rules[at][3]])


def some_attributes(chance, rules, circular, often):
    """Declarations by chance, and equations whose expressions never give less for more."""
    below, above = [], []
    for name in NAMES:
        for at in range(chance.randint(1, 3)):
            attribute = "abc"[at]
            kind = chance.choice(["once", "most", "all"]) if circular else "once"
            if name != "s" and chance.random() < 0.4:
                above.append((name, attribute, kind))
            else:
                below.append((name, attribute, kind))
    kinds = {(name, attribute): kind for name, attribute, kind in below + above}
    equations = []
    for at, (_, left, _, symbols) in enumerate(rules):
        places = [(("own", attribute), kind) for (name, attribute), kind in kinds.items() if name == left]
        for k, (sort, word) in enumerate(symbols):
            if sort == "nt":
                places += [(("kid", k, attribute), kind) for (name, attribute), kind in kinds.items() if name == word]
        for name, attribute, kind in below:
            if name == left:
                equations.append(("eq", at, ("own", attribute), some_expression(chance, kind, places, len(symbols), 2, often)))
        for k, (sort, word) in enumerate(symbols):
            for name, attribute, kind in above:
                if sort == "nt" and name == word:
                    equations.append(("eq", at, ("kid", k, attribute), some_expression(chance, kind, places, len(symbols), 2, often)))
    chance.shuffle(equations)
    return ("attributes", below, above, equations)


def some_expression(chance, kind, places, kids, deep, often):
    """An expression with an integer as its value, or for the kind "all" with a list; neither is ever less for more."""
    wanted = "all" if kind == "all" else "number"
    refs = [part for part, other in places if (other == "all") == (wanted == "all")] if chance.random() < 2 * often else []
    choice = chance.random()
    if refs and choice < often:
        return chance.choice(refs)
    if wanted == "all":
        if choice < 0.6 and deep:
            return ("call", "join", [some_expression(chance, kind, places, kids, deep - 1, often) for _ in range(2)])
        return ("call", "list", [chance.choice([("val", chance.randint(-2, 2)), ("val", chance.choice("xyz")), ("text",),
                                                ("kidtext", chance.randrange(kids))]) for _ in range(chance.randint(0, 2))])
    if choice < 0.6 and deep:
        return ("call", "add", [some_expression(chance, kind, places, kids, deep - 1, often) for _ in range(2)])
    if choice < 0.7 and refs and deep:
        return ("if", ("val", chance.randint(0, 1)), some_expression(chance, kind, places, kids, 0, often), chance.choice(refs))
    if choice < 0.8:
        return ("call", "len", [chance.choice([("text",), ("kidtext", chance.randrange(kids))])])
    return ("val", chance.randint(0, 3))


def some_language(chance, circular=True, often=0.45):
    rules = some_rules(chance)
    grammar = ("grammar", "s", rules)
    attributes = some_attributes(chance, rules, circular, often)
    check(grammar, attributes)
    return grammar, attributes


def text_below(tree):
    return tree if isinstance(tree, str) else "".join(text_below(kid) for kid in tree[2])


class Plain:
    """The instances of a tree, what they need, and their groups, word by word as they are defined."""

    def __init__(self, grammar, attributes, tree):
        self.tree = tree
        self.kinds, self.laws = {}, {}
        kinds = {(name, attribute): kind for name, attribute, kind in attributes[1] + attributes[2]}
        for path, rule, _, _ in nodes(tree):
            for _, at, target, expression in attributes[3]:
                if at == rule:
                    instance = self.meant(path, target)
                    left = grammar[2][subtree(tree, instance[0])[1]][1]
                    self.kinds[instance] = kinds[(left, instance[1])]
                    self.laws[instance] = (path, expression)
        self.needs = {one: [self.meant(path, part) for part in parts_of(expression) if part[0] in ("own", "kid")]
                      for one, (path, expression) in self.laws.items()}
        self.reach = {one: self.reached(one) for one in self.laws}

    def meant(self, path, part):
        return (path, part[1]) if part[0] == "own" else (path + (part[1],), part[2])

    def reached(self, one):
        found, todo = set(), list(self.needs[one])
        while todo:
            other = todo.pop()
            if other not in found:
                found.add(other)
                todo.extend(self.needs[other])
        return found

    def groups(self):
        """All groups, ascending lists, each behind those that it needs."""
        groups = {tuple(sorted({one} | {other for other in self.reach[one] if one in self.reach[other]})) for one in self.laws}
        return sorted(groups, key=lambda group: (len(self.reach[group[0]] | set(group)), group))

    def circular(self, group):
        return group[0] in self.reach[group[0]]

    def bad_cycles(self):
        return [list(group) for group in self.groups() if self.circular(group) and "once" in [self.kinds[one] for one in group]]

    def value(self, one, known):
        path, expression = self.laws[one]
        node = subtree(self.tree, path)
        refs = {part: known[self.meant(path, part)] for part in parts_of(expression) if part[0] in ("own", "kid")}
        return value_of(expression, refs, text_below(node), [text_below(kid) for kid in node[2]])

    def values(self):
        known = {}
        for group in self.groups():
            if self.kinds[group[0]] == "once":
                known[group[0]] = self.value(group[0], known)
                continue
            known.update({one: 0 if self.kinds[one] == "most" else [] for one in group})
            while True:
                before = {one: known[one] for one in group}
                for one in group:
                    new = self.value(one, known)
                    known[one] = min(new, 1000) if self.kinds[one] == "most" else in_order(new)
                if before == {one: known[one] for one in group}:
                    break
        return known

    def touched(self, path, old, new):
        """The groups that are computed anew when the node at a path is new, by the old values and the new ones."""
        changed, computed = set(), []
        for group in self.groups():
            if any(self.is_touched(one, path, old, changed) for one in group):
                computed.append(group)
                changed.update(one for one in group if one not in old or old[one] != new[one])
        return computed

    def is_touched(self, one, path, old, changed):
        at, expression = self.laws[one]
        texts = [at if part[0] == "text" else at + (part[1],) for part in parts_of(expression) if part[0] in ("text", "kidtext")]
        return (one not in old or one[0][:len(path)] == path or any(path[:len(text)] == text for text in texts)
                or any(other in changed for other in self.needs[one]))


def in_order(items):
    return sorted({item for item in items if isinstance(item, int)}) + sorted({item for item in items if isinstance(item, str)})
