"""The best texts of names for the stretches of a text: with the least changes, then the shortest, then the least one.

A choice is a pair of a weight, which counts changes first and then characters, and a text. Of the texts with one
weight all are equally long, so the best choice for symbols in a row is made of the best ones for each of them.
"""

from scribeself.grammars import all_derived, derived
from scribeself.stretches import numbers_of

CHANGE = 4294967296


def both(first, second):
    """The choice for two stretches, one after the other, or None if there is none for one of them."""
    if first is None or second is None:
        return None
    return (first[0] + second[0], first[1] + second[1])


def best(choices):
    """The best one of choices that are there, or None."""
    return min([choice for choice in choices if choice is not None], default=None)


def best_cut(firsts, seconds):
    """The best choice for a stretch that is cut in one of several ways, or None if there is none."""
    if not firsts:
        return None
    pairs = list(zip(firsts, seconds))
    least = min([first[0] + second[0] for first, second in pairs])
    return (least, min([first[1] + second[1] for first, second in pairs if first[0] + second[0] == least]))


def put_in(text):
    """The choice for an empty stretch that a text is put into."""
    return (len(text) * CHANGE + len(text), text)


def chosen_char(text, chars):
    """The best text of a class for a stretch: a character that is there, if there is one."""
    return min([char for char in text if char in chars], default=chars[0])


def in_row(choices):
    """The choice for stretches one after the other."""
    made = (0, "")
    for choice in choices:
        made = both(made, choice)
    return made


class Nearest:
    """The choices for all stretches of a text, of the names that derive any text.

    `ends` leads from a symbol to a list that has, for each end, the choices of the stretches there by their starts.
    """

    def __init__(self, grammar, text):
        full = derived(grammar, True)
        self.text = text
        self.rules = [(rule[1], list(rule[3])) for rule in grammar[2] if all_derived(rule[3], full, True)]
        self.empty = {}
        self.ends = {}
        self.around = []
        self.find_empty()
        self.find_around()
        for symbol in self.empty:
            self.begin(symbol)
        for start in range(len(text) - 1, -1, -1):
            rows = [self.first_row(symbols) for _, symbols in self.rules]
            for end in range(start + 1, len(text) + 1):
                self.settle(rows, start, end)

    def find_empty(self):
        """Find the choices for an empty stretch; each round finds them for trees that are higher by one."""
        for _, symbols in self.rules:
            for symbol in symbols:
                if symbol[0] != "nt":
                    self.empty[symbol] = put_in(symbol[1] if symbol[0] == "lit" else symbol[1][0])
        changed = True
        while changed:
            changed = False
            for left, symbols in self.rules:
                made = in_row([self.empty.get(symbol) for symbol in symbols])
                changed = improve(self.empty, ("nt", left), made) or changed

    def find_around(self):
        """Find what stands around a name in a rule where all other symbols have empty stretches."""
        for left, symbols in self.rules:
            for k, symbol in enumerate(symbols):
                if symbol[0] == "nt":
                    ahead = in_row([self.empty[other] for other in symbols[:k]])
                    behind = in_row([self.empty[other] for other in symbols[k + 1:]])
                    self.around.append((("nt", left), symbol, ahead, behind))

    def begin(self, symbol):
        """Set the choices of a symbol for empty stretches, and for all stretches if it is no name."""
        many = len(self.text) + 1
        ends = [[None] * many for _ in range(many)]
        self.ends[symbol] = ends
        for at in range(many):
            ends[at][at] = self.empty[symbol]
        if symbol[0] != "nt":
            numbers = numbers_of(symbol, self.text)
            for start in range(many):
                for size in range(many - start):
                    ends[start + size][start] = self.leaf(symbol, start, start + size, numbers[start][size])

    def leaf(self, symbol, start, end, number):
        """The choice for a stretch of a symbol that is no name, with its number of changes."""
        kind, word = symbol
        told = word if kind == "lit" else chosen_char(self.text[start:end], word)
        return (number * CHANGE + len(told), told)

    def first_row(self, symbols):
        """For each number of symbols but all, a list with their choice for an empty stretch."""
        return [[in_row([self.empty[other] for other in symbols[:seen]])] for seen in range(len(symbols))]

    def settle(self, rows, start, end):
        """Find the choices of all names for a stretch; those for the stretches in it are known."""
        found = {}
        cuts = []
        for (left, symbols), row in zip(self.rules, rows):
            cuts.append(self.inner(symbols, row, start, end))
            wholes = [None if symbol[0] == "nt" else self.ends[symbol][end][start] for symbol in symbols]
            made = self.chain(symbols, row, cuts[-1], wholes)[-1] if symbols else ((end - start) * CHANGE, "")
            improve(found, ("nt", left), made)
        self.go_around(found)
        for symbol in found:
            self.ends[symbol][end][start] = found[symbol]
        for (_, symbols), row, cut in zip(self.rules, rows, cuts):
            wholes = [self.ends[symbol][end][start] for symbol in symbols]
            made = self.chain(symbols, row, cut, wholes)
            for seen in range(1, len(symbols)):
                row[seen].append(made[seen])

    def inner(self, symbols, row, start, end):
        """For each symbol, the choice for the symbols up to it if neither it nor those ahead have all of a stretch."""
        return [best_cut(row[seen][1:], self.ends[symbol][end][start + 1:end]) for seen, symbol in enumerate(symbols)]

    def chain(self, symbols, row, cuts, wholes):
        """The choices of all beginnings of the symbols for a stretch, from those of single symbols for all of it."""
        made = [None]
        for seen, symbol in enumerate(symbols):
            longer = both(made[seen], self.empty[symbol])
            made.append(best([cuts[seen], longer, both(row[seen][0], wholes[seen])]))
        return made

    def go_around(self, found):
        """Let the choices of names for a stretch go up to names where all of the stretch is theirs."""
        changed = True
        while changed:
            changed = False
            for upper, lower, ahead, behind in self.around:
                made = both(both(ahead, found.get(lower)), behind)
                changed = improve(found, upper, made) or changed

    def choice(self, name, start, end):
        """The choice of a name for a stretch, or None if it derives no text."""
        if ("nt", name) not in self.ends:
            return None
        return self.ends[("nt", name)][end][start]


def improve(found, symbol, choice):
    """Take a choice in if it is better than the one that is known; return whether it is."""
    if choice is None or (symbol in found and found[symbol] <= choice):
        return False
    found[symbol] = choice
    return True
