"""Descriptions: whether their parts fit, and how they are read from texts."""

from scribeself.equations import attributes_fit
from scribeself.errors import CoverError, DescriptionError, GrammarError
from scribeself.forests import check_filters
from scribeself.grammars import check
from scribeself.machines import is_machine
from scribeself.patterns import check_pattern
from scribeself.phrases import read_expression, read_pattern, read_term
from scribeself.rewriting import rules_fit
from scribeself.scanning import Scanner

KINDS = ("once", "most", "all")


def fits(description):
    """Whether the parts of a description fit."""
    _, grammar, filters, attributes, rewriting, patterns, machine = description
    try:
        check(grammar)
        check_filters(grammar, filters)
        for pattern in patterns:
            check_pattern(pattern)
    except (GrammarError, CoverError):
        return False
    if not attributes_fit(grammar, attributes) or (grammar[1], "out", "once") not in attributes[1]:
        return False
    return rules_fit(rewriting) and is_machine(machine)


def read_checked(text):
    """The description of a text; raise DescriptionError, with the line 0 if its parts do not fit."""
    description = read(text)
    if not fits(description):
        raise DescriptionError(0)
    return description


def read(text):
    """The description of a text; raise DescriptionError with the first line that does not fit."""
    scan = Scanner(text)
    scan.expect("start ")
    start = scan.read_name()
    scan.expect("\n")
    rules = read_lines(scan, {}, ["rule"])
    labels = {}
    for at, rule in enumerate(rules):
        labels.setdefault(rule[2], at)
    filters = read_lines(scan, labels, ["first", "under", "stop", "bar"])
    below = read_lines(scan, labels, ["below"])
    above = read_lines(scan, labels, ["above"])
    attributes = ("attributes", below, above, read_lines(scan, labels, ["eq", "down"]))
    rewriting = read_lines(scan, labels, ["rewrite"])
    patterns = read_lines(scan, labels, ["cover"])
    machine = read_machine(scan)
    if scan.at < len(text):
        raise DescriptionError(scan.line_number())
    return ("description", ("grammar", start, rules), filters, attributes, rewriting, patterns, machine)


def read_lines(scan, labels, words):
    """What stands in the following lines that begin with one of some words; `labels` leads to indexes of rules."""
    found = []
    word = scan.read_word(words)
    while word is not None:
        action = LINES[word]
        found.append(action(scan, labels))
        scan.expect("\n")
        word = scan.read_word(words)
    return found


def read_label(scan, labels):
    """The index of the rule with the label at the position."""
    label = scan.read_name()
    if label not in labels:
        raise DescriptionError(scan.line_number())
    return labels[label]


def read_rule(scan, _):
    """A rule, behind the word of its line."""
    label = scan.read_name()
    scan.expect(" ")
    left = scan.read_name()
    scan.expect(" :")
    return ("rule", left, label, read_all(scan, read_symbol))


def read_all(scan, action):
    """What an action reads, again and again as long as a space stands there."""
    found = []
    while scan.passes(" "):
        found.append(action(scan))
    return found


def read_symbol(scan):
    """A symbol of a rule."""
    if scan.sees("'"):
        return ("lit", read_literal(scan))
    if scan.sees("["):
        return ("class", scan.read_quoted("[", "]"))
    return ("run", scan.read_quoted("{", "}")) if scan.sees("{") else ("nt", scan.read_name())


def read_literal(scan):
    """The text of a literal."""
    return scan.read_quoted("'", "'")


def read_first(scan, labels):
    """A filter "first", behind the word of its line."""
    upper = read_label(scan, labels)
    scan.expect(" ")
    return ("first", upper, read_label(scan, labels))


def read_under(scan, labels):
    """A filter "under", behind the word of its line."""
    upper = read_label(scan, labels)
    scan.expect(" ")
    kid = scan.read_number()
    scan.expect(" ")
    return ("under", upper, kid, read_label(scan, labels))


def read_stop(scan, _):
    """A filter "stop", behind the word of its line."""
    name = scan.read_name()
    scan.expect(" ")
    return ("stop", name, scan.read_quoted("[", "]"))


def read_bar(scan, _):
    """A filter "bar", behind the word of its line."""
    name = scan.read_name()
    return ("bar", name, read_all(scan, read_literal))


def read_declaration(scan, _):
    """A declaration, behind the word of its line."""
    kind = scan.read_word(list(KINDS))
    if kind is None:
        raise DescriptionError(scan.line_number())
    name = scan.read_name()
    scan.expect(" ")
    return (name, scan.read_name(), kind)


def read_equation(scan, labels):
    """An equation for an attribute of the node, behind the word of its line."""
    rule = read_label(scan, labels)
    scan.expect(" ")
    attribute = scan.read_name()
    scan.expect(" ")
    return ("eq", rule, ("own", attribute), read_expression(scan))


def read_down(scan, labels):
    """An equation for an attribute of a kid, behind the word of its line."""
    rule = read_label(scan, labels)
    scan.expect(" ")
    kid = scan.read_number()
    scan.expect(" ")
    attribute = scan.read_name()
    scan.expect(" ")
    return ("eq", rule, ("kid", kid, attribute), read_expression(scan))


def read_rewrite(scan, _):
    """A rewriting rule, behind the word of its line."""
    left = read_pattern(scan)
    scan.expect(" ")
    return (left, read_pattern(scan))


def read_cover(scan, _):
    """A pattern of covers, behind the word of its line."""
    cost = scan.read_number()
    scan.expect(" ")
    tree = read_pattern(scan)
    scan.expect(" :")
    return (cost, tree, read_all(scan, read_term))


def read_machine(scan):
    """The machine, with the word of its line and the end of the line."""
    scan.expect("machine")
    numbers = []
    for _ in range(4):
        scan.expect(" ")
        numbers.append(scan.read_number())
    scan.expect("\n")
    return ("machine", numbers[0], numbers[1], numbers[2], numbers[3])


LINES = {
    "rule": read_rule,
    "first": read_first,
    "under": read_under,
    "stop": read_stop,
    "bar": read_bar,
    "below": read_declaration,
    "above": read_declaration,
    "eq": read_equation,
    "down": read_down,
    "rewrite": read_rewrite,
    "cover": read_cover,
}
