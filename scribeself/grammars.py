"""Grammars: their check, and what can be told of their names."""

from scribeself.classes import canon, is_class, is_text
from scribeself.errors import GrammarError

LETTERS = "abcdefghijklmnopqrstuvwxyz"
LETTERS_AND_DIGITS = "abcdefghijklmnopqrstuvwxyz0123456789"


def is_name(text):
    """Whether a string is a name."""
    if text == "" or len(text) > 16 or text[0] not in LETTERS:
        return False
    return all([char in LETTERS_AND_DIGITS for char in text])


def check(grammar):
    """Return None for a correct grammar; raise GrammarError for its first fault."""
    _, start, rules = grammar
    known = {left: True for _, left, _, _ in rules}
    labels = {}
    for at, (_, left, label, symbols) in enumerate(rules):
        if not is_name(left) or not is_name(label):
            raise GrammarError("name", at)
        if label in labels:
            raise GrammarError("label", at)
        labels[label] = True
        for symbol in symbols:
            check_symbol(symbol, known, at)
    if start not in known:
        raise GrammarError("start", -1)
    names = cyclic(grammar)
    if names:
        raise GrammarError("cycle", [rule[1] for rule in rules].index(names[0]))


def check_symbol(symbol, known, at):
    """Raise GrammarError if a symbol of the rule with an index is wrong."""
    kind, word = symbol
    if kind == "lit":
        if word == "" or not is_text(word):
            raise GrammarError("lit", at)
    elif kind == "nt":
        if word not in known:
            raise GrammarError("nt", at)
    elif word == "" or not is_class(word):
        raise GrammarError("class", at)


def lefts(grammar):
    """The names that have rules, ascending."""
    return sorted({rule[1] for rule in grammar[2]})


def nullable(grammar):
    """The names that derive the empty text, ascending."""
    return sorted(derived(grammar, False))


def productive(grammar):
    """The names that derive any text, ascending."""
    return sorted(derived(grammar, True))


def derived(grammar, visible):
    """The names that derive a text, as a dict; without literals, classes and runs if these are not visible."""
    found = {}
    before = -1
    while len(found) > before:
        before = len(found)
        for _, left, _, symbols in grammar[2]:
            if left not in found and all_derived(symbols, found, visible):
                found[left] = True
    return found


def all_derived(symbols, found, visible):
    """Whether each symbol is one of the names, or one that is no name where these are visible."""
    return all([word in found if kind == "nt" else visible for kind, word in symbols])


def reached(grammar):
    """The names that are reached from the start, ascending."""
    below = {}
    for _, left, _, symbols in grammar[2]:
        names = [word for kind, word in symbols if kind == "nt"]
        below.setdefault(left, []).extend(names)
    return sorted(within(below, [grammar[1]]))


def cyclic(grammar):
    """The names that can derive themselves alone, ascending."""
    empty = derived(grammar, False)
    alone = {}
    for _, left, _, symbols in grammar[2]:
        alone.setdefault(left, []).extend(alone_in(symbols, empty))
    return sorted([name for name in alone if name in within(alone, alone[name])])


def alone_in(symbols, empty):
    """The names of the symbols all of whose other symbols are nullable names."""
    full = [at for at, (kind, word) in enumerate(symbols) if kind != "nt" or word not in empty]
    if len(full) > 1:
        return []
    return [word for at, (kind, word) in enumerate(symbols) if kind == "nt" and full in ([], [at])]


def within(below, names):
    """The names and those that a dict of lists leads to from them, as a dict."""
    found = {name: True for name in names}
    todo = list(found)
    while todo:
        upper = todo.pop()
        for name in below[upper]:
            if name not in found:
                found[name] = True
                todo.append(name)
    return found


def firsts(grammar):
    """A dict from the names to the classes of the characters with which their texts begin."""
    empty = derived(grammar, False)
    full = derived(grammar, True)
    rules = [rule for rule in grammar[2] if all_derived(rule[3], full, True)]
    known = {name: "" for name in lefts(grammar)}
    changed = True
    while changed:
        changed = False
        for _, left, _, symbols in rules:
            chars = canon(known[left] + beginnings(symbols, known, empty))
            if chars != known[left]:
                known[left] = chars
                changed = True
    return known


def beginnings(symbols, known, empty):
    """The characters with which the texts of symbols begin, as far as those of the names are known."""
    chars = ""
    for kind, word in symbols:
        if kind == "nt":
            chars += known[word]
            if word not in empty:
                return chars
        else:
            return chars + (word[0] if kind == "lit" else word)
    return chars
