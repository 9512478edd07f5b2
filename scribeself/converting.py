"""Descriptions as values, and back."""

from scribeself.errors import DescriptionError
from scribeself.folding import folded
from scribeself.phrases import MAKE, parts_of_expression, parts_of_pattern


def term(name, parts):
    """The term with a name and some values."""
    return ("term", name, parts)


def as_value(description):
    """A description as a value."""
    _, (_, start, rules), filters, (_, below, above, equations), rewriting, patterns, machine = description
    labels = [rule[2] for rule in rules]
    return term("description", [
        start,
        [rule_value(rule) for rule in rules],
        [filter_value(sieve, labels) for sieve in filters],
        [declaration_value(row) for row in below],
        [declaration_value(row) for row in above],
        [equation_value(equation, labels) for equation in equations],
        [term("rewrite", [pattern_value(left), pattern_value(right)]) for left, right in rewriting],
        [cover_value(pattern) for pattern in patterns],
        list(machine[1:]),
    ])


def rule_value(rule):
    """A rule as a value."""
    _, left, label, symbols = rule
    return term("rule", [label, left, [term(kind, [word]) for kind, word in symbols]])


def filter_value(sieve, labels):
    """A filter as a value, by the labels of the rules."""
    kind = sieve[0]
    if kind == "first":
        return term(kind, [labels[sieve[1]], labels[sieve[2]]])
    if kind == "under":
        return term(kind, [labels[sieve[1]], sieve[2], labels[sieve[3]]])
    return term(kind, [sieve[1], sieve[2]])


def declaration_value(row):
    """A declaration as a value."""
    name, attribute, kind = row
    return term("attribute", [kind, name, attribute])


def equation_value(equation, labels):
    """An equation as a value, by the labels of the rules."""
    _, rule, target, expression = equation
    told = expression_value(expression)
    if target[0] == "own":
        return term("eq", [labels[rule], target[1], told])
    return term("down", [labels[rule], target[1], target[2], told])


def cover_value(pattern):
    """A pattern of covers as a value."""
    cost, tree, instructions = pattern
    return term("cover", [cost, pattern_value(tree), [pattern_value(part) for part in instructions]])


def expression_value(expression):
    """An expression as a value."""
    return folded(expression, parts_of_expression, expression_term)


def expression_term(expression, told):
    """An expression as a value, by those of the expressions in it."""
    kind = expression[0]
    if kind == "if":
        return term("if", told)
    if kind != "call":
        return term(kind, list(expression[1:]))
    name = expression[1]
    return term("made", [name[len(MAKE):], told]) if name.startswith(MAKE) else term("call", [name, told])


def pattern_value(pattern):
    """A pattern as a value."""
    return folded(pattern, parts_of_pattern, pattern_term)


def pattern_term(pattern, told):
    """A pattern as a value, by those of the patterns in it."""
    if not isinstance(pattern, tuple):
        return term("leaf", [pattern])
    return term("hole", [pattern[1]]) if pattern[0] == "hole" else term("node", [pattern[1], told])


def from_value(value):
    """The description that is told as a value; raise DescriptionError with the line 0 if a label is missing."""
    start, rules, filters, below, above, equations, rewriting, patterns, machine = value[2]
    labels = {}
    for at, rule in enumerate(rules):
        labels.setdefault(rule[2][0], at)
    return (
        "description",
        ("grammar", start, [rule_told(rule[2]) for rule in rules]),
        [filter_told(sieve, labels) for sieve in filters],
        ("attributes", [declaration_told(row[2]) for row in below], [declaration_told(row[2]) for row in above],
         [equation_told(equation, labels) for equation in equations]),
        [(pattern_told(rule[2][0]), pattern_told(rule[2][1])) for rule in rewriting],
        [cover_told(pattern[2]) for pattern in patterns],
        ("machine", machine[0], machine[1], machine[2], machine[3]),
    )


def index_of(label, labels):
    """The index of the rule with a label."""
    if label not in labels:
        raise DescriptionError(0)
    return labels[label]


def rule_told(parts):
    """The rule that is told by the parts of a term."""
    label, left, symbols = parts
    return ("rule", left, label, [(symbol[1], symbol[2][0]) for symbol in symbols])


def filter_told(sieve, labels):
    """The filter that is told by a term."""
    _, kind, parts = sieve
    if kind == "first":
        return (kind, index_of(parts[0], labels), index_of(parts[1], labels))
    if kind == "under":
        return (kind, index_of(parts[0], labels), parts[1], index_of(parts[2], labels))
    return (kind, parts[0], parts[1])


def declaration_told(parts):
    """The declaration that is told by the parts of a term."""
    kind, name, attribute = parts
    return (name, attribute, kind)


def equation_told(equation, labels):
    """The equation that is told by a term."""
    _, kind, parts = equation
    target = ("own", parts[1]) if kind == "eq" else ("kid", parts[1], parts[2])
    return ("eq", index_of(parts[0], labels), target, expression_told(parts[-1]))


def cover_told(parts):
    """The pattern of covers that is told by the parts of a term."""
    cost, tree, instructions = parts
    return (cost, pattern_told(tree), [pattern_told(part) for part in instructions])


def expression_told(value):
    """The expression that is told by a value."""
    return folded(value, values_in_expression, expression_of)


def values_in_expression(value):
    """The values of the expressions in an expression that is told by a term."""
    _, kind, parts = value
    if kind == "if":
        return parts
    return parts[1] if kind in ("call", "made") else []


def expression_of(value, told):
    """The expression that is told by a term, by the expressions in it."""
    _, kind, parts = value
    if kind in ("call", "made"):
        return ("call", parts[0] if kind == "call" else MAKE + parts[0], told)
    return tuple([kind] + (told if kind == "if" else parts))


def pattern_told(value):
    """The pattern that is told by a value."""
    return folded(value, values_in_pattern, pattern_of)


def values_in_pattern(value):
    """The values of the patterns in a pattern that is told by a term."""
    return value[2][1] if value[1] == "node" else []


def pattern_of(value, told):
    """The pattern that is told by a term, by the patterns in it."""
    _, kind, parts = value
    if kind == "node":
        return ("term", parts[0], told)
    return ("hole", parts[0]) if kind == "hole" else parts[0]
