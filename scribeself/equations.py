"""The check of attributes and their equations."""

from scribeself.errors import EquationError
from scribeself.grammars import lefts
from scribeself.values import parts_of


def check(grammar, attributes):
    """Return None if the attributes fit the grammar; otherwise raise EquationError."""
    _, below, above, equations = attributes
    declared = declared_in(grammar, below, above)
    wanted = wanted_targets(grammar[2], below, above)
    for _, rule, target, expression in equations:
        if (rule, target) not in wanted:
            raise EquationError("an equation gives nothing that its rule has to give, or gives it again")
        del wanted[(rule, target)]
        if not all([is_there(part, grammar[2][rule], declared) for part in parts_of(expression)]):
            raise EquationError("an expression refers to something that is not there")
    if wanted:
        raise EquationError("an equation is missing")


def attributes_fit(grammar, attributes):
    """Whether the attributes fit the grammar."""
    try:
        check(grammar, attributes)
    except EquationError:
        return False
    return True


def declared_in(grammar, below, above):
    """A dict of the pairs of a name and an attribute of it; raise EquationError if a declaration is wrong."""
    names = lefts(grammar)
    declared = {}
    for name, attribute, kind in below + above:
        if name not in names or kind not in ("once", "most", "all"):
            raise EquationError("a declaration has a wrong name or kind")
        if (name, attribute) in declared:
            raise EquationError("an attribute is declared twice")
        declared[(name, attribute)] = True
    if grammar[1] in [row[0] for row in above]:
        raise EquationError("the start has an attribute above")
    return declared


def wanted_targets(rules, below, above):
    """A dict of the pairs of the index of a rule and a target for which the rule must have an equation."""
    wanted = {}
    for at, (_, left, _, symbols) in enumerate(rules):
        for name, attribute, _ in below:
            if name == left:
                wanted[(at, ("own", attribute))] = True
        for kid, symbol in enumerate(symbols):
            for name, attribute, _ in above:
                if symbol == ("nt", name):
                    wanted[(at, ("kid", kid, attribute))] = True
    return wanted


def is_there(part, rule, declared):
    """Whether a rule has the attribute or the kid that a part of an expression refers to, if it does refer to one."""
    _, left, _, symbols = rule
    if part[0] == "own":
        return (left, part[1]) in declared
    if part[0] not in ("kid", "kidtext"):
        return True
    if not 0 <= part[1] < len(symbols):
        return False
    kind, word = symbols[part[1]]
    return part[0] == "kidtext" or (kind == "nt" and (word, part[2]) in declared)
