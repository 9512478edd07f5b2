"""The texts of descriptions."""

from scribeself.phrases import written_expression, written_pattern
from scribeself.quoting import quoted


def write(description):
    """The text of a description that can be written."""
    _, (_, start, rules), filters, (_, below, above, equations), rewriting, patterns, machine = description
    labels = [rule[2] for rule in rules]
    lines = [["start", start]]
    lines.extend([rule_words(rule) for rule in rules])
    lines.extend([filter_words(sieve, labels) for sieve in filters])
    lines.extend([["below", kind, name, attribute] for name, attribute, kind in below])
    lines.extend([["above", kind, name, attribute] for name, attribute, kind in above])
    lines.extend([equation_words(equation, labels) for equation in equations])
    lines.extend([["rewrite", written_pattern(left), written_pattern(right)] for left, right in rewriting])
    lines.extend([cover_words(pattern) for pattern in patterns])
    lines.append([str(part) for part in machine])
    return "".join([" ".join(words) + "\n" for words in lines])


def rule_words(rule):
    """The words of the line of a rule."""
    _, left, label, symbols = rule
    return ["rule", label, left, ":"] + [symbol_word(symbol) for symbol in symbols]


def symbol_word(symbol):
    """The word of a symbol."""
    kind, word = symbol
    if kind == "lit":
        return literal_word(word)
    if kind == "class":
        return quoted("[", word, "]")
    return quoted("{", word, "}") if kind == "run" else word


def literal_word(text):
    """The word of a literal."""
    return quoted("'", text, "'")


def filter_words(sieve, labels):
    """The words of the line of a filter."""
    kind = sieve[0]
    if kind == "first":
        return [kind, labels[sieve[1]], labels[sieve[2]]]
    if kind == "under":
        return [kind, labels[sieve[1]], str(sieve[2]), labels[sieve[3]]]
    if kind == "stop":
        return [kind, sieve[1], quoted("[", sieve[2], "]")]
    return [kind, sieve[1]] + [literal_word(text) for text in sieve[2]]


def equation_words(equation, labels):
    """The words of the line of an equation."""
    _, rule, target, expression = equation
    words = ["eq", labels[rule]] if target[0] == "own" else ["down", labels[rule], str(target[1])]
    return words + [target[-1], written_expression(expression)]


def cover_words(pattern):
    """The words of the line of a pattern of covers."""
    cost, tree, instructions = pattern
    return ["cover", str(cost), written_pattern(tree), ":"] + [written_pattern(part) for part in instructions]
