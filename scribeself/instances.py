"""Attributes, prepared for trees, and the instances of a tree: what they need, and their groups.

The instances of a tree have numbers, in the order in which they are found.
"""

from scribeself.values import parts_of, references, value_of


class Equation:
    """An equation, prepared: what it gives, the kind of that attribute, and what its expression refers to."""

    def __init__(self, target, kind, expression):
        self.target = target
        self.kind = kind
        self.body = expression
        self.needs = references(expression)
        self.texts = [part for part in parts_of(expression) if part[0] in ("text", "kidtext")]


class Plan:
    """The equations of each rule. It keeps no list of the attributes, so nobody can change it later."""

    def __init__(self, grammar, attributes):
        _, below, above, equations = attributes
        rules = grammar[2]
        kinds = {(name, attribute): kind for name, attribute, kind in below + above}
        self.equations = [[] for _ in rules]
        for _, rule, target, expression in equations:
            kind = kinds[(name_of(rules[rule], target), target[-1])]
            self.equations[rule].append(Equation(target, kind, expression))


def name_of(rule, target):
    """The name that the node of a target has."""
    return rule[1] if target[0] == "own" else rule[3][target[1]][1]


def instance_of(path, part):
    """The instance that a target or a reference means at the node with a path."""
    return (path, part[1]) if part[0] == "own" else (path + (part[1],), part[2])


class Site:
    """An instance, its equation, and the path of the node to whose rule the equation belongs."""

    def __init__(self, equation, path):
        self.equation = equation
        self.path = path
        self.instance = instance_of(path, equation.target)


class Instances:
    """The instances of a tree by their numbers, and for each path the texts of the kids there."""

    def __init__(self, plan, tree):
        self.sites = []
        self.texts = {}
        for path, _, kids in parts_below(tree)[::-1]:
            self.texts[path] = [kid if isinstance(kid, str) else "".join(self.texts[path + (k,)])
                                for k, kid in enumerate(kids)]
        for path, rule, _ in parts_below(tree):
            self.sites.extend([Site(equation, path) for equation in plan.equations[rule]])
        numbers = {site.instance: at for at, site in enumerate(self.sites)}
        self.needs = [[numbers[instance_of(site.path, part)] for part in site.equation.needs] for site in self.sites]

    def value(self, number, known):
        """The value of the expression of an instance, by the known values of those that it needs."""
        site = self.sites[number]
        needed = {part: known[instance_of(site.path, part)] for part in site.equation.needs}
        kids = self.texts[site.path]
        return value_of(site.equation.body, needed, "".join(kids), kids)

    def groups(self):
        """The groups of numbers, each behind those that it needs."""
        users = [[] for _ in self.needs]
        for at, needed in enumerate(self.needs):
            for number in needed:
                users[number].append(at)
        done = [False for _ in self.needs]
        order = []
        for at in range(len(users)):
            if not done[at]:
                order.extend(finished(users, at, done))
        done = [False for _ in self.needs]
        found = []
        # From the last ones on, all that a group needs is done before it, so only the group itself is left to find.
        for at in order[::-1]:
            if not done[at]:
                found.append(self.in_order(finished(self.needs, at, done), done))
        return found

    def in_order(self, group, done):
        """A group from its least instance on, as far as possible with those that are needed first.

        So the order depends on the group alone: the same group, kept when others change, would get its values again.
        """
        if len(group) == 1:
            return group
        for at in group:
            done[at] = False
        _, least = min([(self.sites[at].instance, at) for at in group])
        return finished(self.needs, least, done)

    def needs_itself(self, group):
        """Whether the instances of a group need themselves, alone or through each other."""
        return len(group) > 1 or group[0] in self.needs[group[0]]


def parts_below(tree):
    """The list of (path, rule, kids) of all nodes, each before those below it, from left to right."""
    found = []
    todo = [((), tree)]
    while todo:
        path, (_, rule, kids) = todo.pop()
        found.append((path, rule, kids))
        todo.extend([(path + (k,), kid) for k, kid in enumerate(kids) if not isinstance(kid, str)][::-1])
    return found


def finished(below, start, done):
    """The numbers that are reached from one through those not done, each behind those below it; they are done then."""
    order = []
    done[start] = True
    todo = [(start, 0)]
    while todo:
        at, k = todo.pop()
        if k == len(below[at]):
            order.append(at)
        else:
            todo.append((at, k + 1))
            other = below[at][k]
            if not done[other]:
                done[other] = True
                todo.append((other, 0))
    return order
