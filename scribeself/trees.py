"""Parts of trees. All functions go over a tree with lists of what is left to do, as trees may be deep."""

from scribeself.errors import EditError


def text_of(tree):
    """The text of a tree, or of a kid."""
    texts = []
    todo = [tree]
    while todo:
        part = todo.pop()
        if isinstance(part, str):
            texts.append(part)
        else:
            todo.extend(part[2][::-1])
    return "".join(texts)


def fits(grammar, tree):
    """Whether a tree has the shape that the grammar asks for, except that runs need not be longest stretches."""
    rules = grammar[2]
    todo = [tree]
    while todo:
        _, rule, kids = todo.pop()
        symbols = rules[rule][3]
        if len(kids) != len(symbols):
            return False
        if not all([kid_fits(rules, symbol, kid) for symbol, kid in zip(symbols, kids)]):
            return False
        todo.extend([kid for kid in kids if not isinstance(kid, str)])
    return True


def kid_fits(rules, symbol, kid):
    """Whether a kid is one for a symbol, whatever its own kids are."""
    kind, word = symbol
    if not isinstance(kid, str):
        return kind == "nt" and rules[kid[1]][1] == word
    if kind == "lit":
        return kid == word
    if kind == "class":
        return len(kid) == 1 and kid in word
    return kind == "run" and kid != "" and all([char in word for char in kid])


def nodes(tree):
    """The list of (path, rule, start, end) of all nodes, each before those below it, from left to right."""
    found = []
    ends = {}
    at = 0
    todo = [((), tree)]
    while todo:
        path, part = todo.pop()
        if isinstance(part, str):
            at += len(part)
        elif isinstance(part, int):
            ends[part] = at
        else:
            # The end of a node is told when its kids are done, so its number waits below them.
            todo.append((path, len(found)))
            todo.extend([(path + (k,), kid) for k, kid in enumerate(part[2])][::-1])
            found.append((path, part[1], at))
    return [(path, rule, start, ends[k]) for k, (path, rule, start) in enumerate(found)]


def subtree(tree, path):
    """The node at a path."""
    below = tree
    for kid in path:
        below = below[2][kid]
    return below


def replaced(tree, path, other):
    """The tree with another node at a path."""
    above = []
    below = tree
    for kid in path:
        above.append((below, kid))
        below = below[2][kid]
    made = other
    for (_, rule, kids), kid in above[::-1]:
        made = ("node", rule, kids[:kid] + [made] + kids[kid + 1:])
    return made


def deepest(tree, start, end):
    """The path of the deepest node whose stretch contains both positions; raise EditError if they are not there."""
    found = nodes(tree)
    if not 0 <= start <= end <= found[0][3]:
        raise EditError("the positions are not in the text")
    best = ()
    for path, _, first, last in found:
        if len(path) == len(best) + 1 and path[:-1] == best and first <= start and end <= last:
            best = path
    return best
