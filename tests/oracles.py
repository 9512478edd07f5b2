"""Slow but plain ways to find what the program must find, and grammars and filters by chance for them."""

import itertools

from scribeself.errors import GrammarError
from scribeself.forests import check_filters
from scribeself.grammars import check


def run_end(text, at, chars):
    """The end of the longest stretch of characters from a position on."""
    end = at
    while end < len(text) and text[end] in chars:
        end += 1
    return end


def gives(text, start, end, symbol):
    """Whether a symbol that is no name gives a stretch of a text."""
    kind, word = symbol
    if kind == "lit":
        return text[start:end] == word
    if kind == "class":
        return end == start + 1 and text[start] in word
    return end > start and run_end(text, start, word) == end


def cuts(start, end, many):
    """All lists of positions that cut a stretch into many parts."""
    if many == 0:
        return [[start]] if start == end else []
    return [[start, *inner, end]
            for inner in itertools.combinations_with_replacement(range(start, end + 1), many - 1)]


def all_trees(grammar, text):
    """A dict from (name, start, end) to all trees there without filters, as nested tuples, found by growing height."""
    rules = grammar[2]
    found = {}
    while True:
        more = {}
        for index, (_, left, _, symbols) in enumerate(rules):
            for start, end in itertools.combinations_with_replacement(range(len(text) + 1), 2):
                for cut in cuts(start, end, len(symbols)):
                    choices = []
                    for symbol, low, high in zip(symbols, cut, cut[1:]):
                        if symbol[0] == "nt":
                            choices.append(sorted(found.get((symbol[1], low, high), set()), key=repr))
                        else:
                            choices.append([text[low:high]] if gives(text, low, high, symbol) else [])
                    for kids in itertools.product(*choices):
                        more.setdefault((left, start, end), set()).add((index, kids))
        if more == found:
            return found
        found = more


def as_tree(frozen):
    """A tree from nested tuples."""
    return ("node", frozen[0], [kid if isinstance(kid, str) else as_tree(kid) for kid in frozen[1]])


def text_below(frozen):
    """The text of a tree of nested tuples."""
    return "".join(kid if isinstance(kid, str) else text_below(kid) for kid in frozen[1])


def passes(grammar, filters, text, frozen, start):
    """Whether all nodes of a tree pass the filters "under", "stop" and "bar"."""
    index, kids = frozen
    mine = text_below(frozen)
    end = start + len(mine)
    left = grammar[2][index][1]
    for sieve in filters:
        if sieve[0] == "stop" and sieve[1] == left and end < len(text) and text[end] in sieve[2]:
            return False
        if sieve[0] == "bar" and sieve[1] == left and mine in sieve[2]:
            return False
        if sieve[0] == "under" and sieve[1] == index and kids[sieve[2]][0] == sieve[3]:
            return False
    at = start
    for kid in kids:
        if not isinstance(kid, str):
            if not passes(grammar, filters, text, kid, at):
                return False
            kid = text_below(kid)
        at += len(kid)
    return True


class PlainForest:
    """The alternatives of places, word by word as they are defined."""

    def __init__(self, grammar, filters, text):
        self.grammar, self.filters, self.text = grammar, filters, text
        self.trees = all_trees(grammar, text)
        self.known = {}
        self.root = (grammar[1], 0, len(text), ())

    def kid_place(self, rule, kid, cut):
        banned = {f[3] for f in self.filters if f[:3] == ("under", rule, kid)}
        return (self.grammar[2][rule][3][kid][1], cut[kid], cut[kid + 1], tuple(sorted(banned)))

    def kids(self, rule, cut):
        symbols = self.grammar[2][rule][3]
        return [self.kid_place(rule, k, cut) for k, symbol in enumerate(symbols) if symbol[0] == "nt"]

    def could(self, symbol, low, high):
        if symbol[0] == "nt":
            return (symbol[1], low, high) in self.trees
        return gives(self.text, low, high, symbol)

    def stands(self, name, start, end):
        for f in self.filters:
            if f[0] == "stop" and f[1] == name and self.text[end:end + 1] and self.text[end] in f[2]:
                return False
            if f[0] == "bar" and f[1] == name and self.text[start:end] in f[2]:
                return False
        return True

    def alternatives(self, place):
        if place not in self.known:
            name, start, end, banned = place
            found = []
            for rule, (_, left, _, symbols) in enumerate(self.grammar[2]):
                if left == name and rule not in banned and self.stands(name, start, end):
                    for cut in cuts(start, end, len(symbols)):
                        if all(self.could(s, a, b) for s, a, b in zip(symbols, cut, cut[1:])):
                            if all(self.alternatives(kid) for kid in self.kids(rule, cut)):
                                found.append((rule, cut))
            rules = {rule for rule, _ in found}
            out = {f[2] for f in self.filters if f[0] == "first" and f[1] in rules}
            self.known[place] = sorted((rule, cut) for rule, cut in found if rule not in out)
        return self.known[place]

    def forest(self):
        found = {}
        todo = [self.root] if self.alternatives(self.root) else []
        while todo:
            place = todo.pop()
            if place not in found:
                found[place] = self.alternatives(place)
                todo.extend(kid for rule, cut in found[place] for kid in self.kids(rule, cut))
        return found

    def all_of(self, place):
        trees = []
        for rule, cut in self.alternatives(place):
            choices = []
            for k, symbol in enumerate(self.grammar[2][rule][3]):
                if symbol[0] == "nt":
                    choices.append(self.all_of(self.kid_place(rule, k, cut)))
                else:
                    choices.append([self.text[cut[k]:cut[k + 1]]])
            trees.extend(("node", rule, list(kids)) for kids in itertools.product(*choices))
        return trees


def some_symbol(chance, names, runs):
    kind = chance.choice(["lit", "class", "nt", "nt"] + (["run"] if runs else []))
    if kind == "nt":
        return ("nt", chance.choice(names))
    if kind == "lit":
        return ("lit", chance.choice(["x", "y", "xy", "xx"]))
    return (kind, chance.choice(["x", "y", "xy"]))


def some_grammar(chance, runs=True):
    """A grammar by chance that passes its check."""
    while True:
        names = ["s", "a", "b"][:chance.randint(1, 3)]
        lefts = names + [chance.choice(names) for _ in range(chance.randint(0, 3))]
        rules = []
        for at, left in enumerate(lefts):
            symbols = [some_symbol(chance, names, runs) for _ in range(chance.choice([0, 1, 1, 2, 2, 3]))]
            rules.append(("rule", left, "r" + str(at), symbols))
        grammar = ("grammar", chance.choice(names), rules)
        try:
            check(grammar)
            return grammar
        except GrammarError:
            pass


def some_filters(chance, grammar):
    """Filters by chance that fit a grammar."""
    rules = grammar[2]
    found = []
    for _ in range(chance.randint(0, 5)):
        kind = chance.choice(["first", "first", "under", "under", "stop", "bar"])
        one, two, kid = chance.randrange(len(rules)), chance.randrange(len(rules)), chance.randint(0, 2)
        sieve = {"first": ("first", one, two), "under": ("under", one, kid, two),
                 "stop": ("stop", rules[one][1], chance.choice(["", "x", "y"])),
                 "bar": ("bar", rules[one][1], chance.choice([[], ["x"], ["", "xy"], ["yx", "x"]]))}[kind]
        try:
            check_filters(grammar, [sieve])
            found.append(sieve)
        except GrammarError:
            pass
    return found


def some_text(chance, most, letters="xy"):
    return "".join(chance.choice(letters) for _ in range(chance.randint(0, most)))
