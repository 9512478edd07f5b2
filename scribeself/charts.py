"""Charts: for each position of a text, which parts of rules are seen there.

A part is a tuple of the index of a rule, the number of its symbols that are seen, and the position at which they
begin. The parts of a position depend on the text up to the character behind the position only, so a chart can be
taken over up to the place of an edit.
"""

from scribeself.grammars import beginnings, derived, firsts, lefts


class Tables:
    """A grammar, prepared for reading. It keeps no list of the grammar, so nobody can change it later."""

    def __init__(self, grammar):
        rules = grammar[2]
        known = firsts(grammar)
        empty = derived(grammar, False)
        self.start = grammar[1]
        self.names = [rule[1] for rule in rules]
        self.symbols = [list(rule[3]) for rule in rules]
        self.begins = [beginnings(rule[3], known, empty) for rule in rules]
        self.empties = [all([kind == "nt" and word in empty for kind, word in rule[3]]) for rule in rules]
        self.rules = {name: [] for name in lefts(grammar)}
        for at, name in enumerate(self.names):
            self.rules[name].append(at)
        self.fitting = {}

    def possible(self, name, char):
        """The rules of a name that can derive an empty text, or one that begins with the next character."""
        key = (name, char)
        if key not in self.fitting:
            self.fitting[key] = [at for at in self.rules[name] if self.is_possible(at, char)]
        return self.fitting[key]

    def is_possible(self, at, char):
        """Whether a rule can derive an empty text, or one that begins with the character, if there is any."""
        return self.empties[at] or (char != "" and char in self.begins[at])


class Column:
    """What is seen at one position.

    `links` leads from each part to the positions at which it is seen without its last symbol. `waiting` leads from a
    name, and `scans` from another symbol, to the parts that go on with it. `ended` has the names that end here, with
    the positions at which they begin.
    """

    def __init__(self):
        self.links = {}
        self.waiting = {}
        self.scans = {}
        self.ended = {}


def charted(tables, text, known):
    """The columns of all positions of a text, of which the first ones are known."""
    first = len(known)
    columns = known + [Column() for _ in range(first, len(text) + 1)]
    for at in range(first):
        scan(columns, text, at, first)
    for at in range(first, len(columns)):
        treat(tables, columns, text, at)
        scan(columns, text, at, first)
    return columns


def is_read(tables, text, columns):
    """Whether the whole text is derived by the start, whatever filters there are."""
    return (tables.start, 0) in columns[len(text)].ended


def scan(columns, text, at, first):
    """Go on over the literals, classes and runs at a position that end at the first position or behind it."""
    scans = columns[at].scans
    for symbol in scans:
        end = end_of(symbol, text, at)
        if end >= first:
            links = columns[end].links
            for rule, seen, origin in scans[symbol]:
                links.setdefault((rule, seen + 1, origin), []).append(at)


def end_of(symbol, text, at):
    """The end of a literal, a class or a run that begins at a position, or -1 if it does not stand there."""
    kind, word = symbol
    if kind == "lit":
        return at + len(word) if text.startswith(word, at) else -1
    end = at
    while end < len(text) and text[end] in word and (kind == "run" or end == at):
        end += 1
    return end if end > at else -1


def treat(tables, columns, text, at):
    """Find all parts that are seen at a position, from those that end there with a literal, a class or a run."""
    column = columns[at]
    char = text[at:at + 1]
    agenda = list(column.links)
    if at == 0:
        predict(column, agenda, tables.possible(tables.start, char), at)
    done = 0
    while done < len(agenda):
        part = agenda[done]
        rule, seen, origin = part
        symbols = tables.symbols[rule]
        done += 1
        if seen == len(symbols):
            finish(columns, at, agenda, (tables.names[rule], origin))
        elif symbols[seen][0] == "nt":
            name = symbols[seen][1]
            if name not in column.waiting:
                predict(column, agenda, tables.possible(name, char), at)
            wait(column, agenda, part, name, at)
        else:
            column.scans.setdefault(symbols[seen], []).append(part)


def predict(column, agenda, rules, at):
    """Begin the rules at a position."""
    for rule in rules:
        part = (rule, 0, at)
        if part not in column.links:
            column.links[part] = []
            agenda.append(part)


def wait(column, agenda, part, name, at):
    """Let a part wait for a name that may end later."""
    column.waiting.setdefault(name, []).append(part)
    # An empty text of the name may have ended here before this part was seen.
    if (name, at) in column.ended:
        advance(column, agenda, part, at)


def finish(columns, at, agenda, ended):
    """Go on with the parts that wait for a name where it begins."""
    column = columns[at]
    if ended in column.ended:
        return
    column.ended[ended] = True
    name, origin = ended
    for part in list(columns[origin].waiting.get(name, [])):
        advance(column, agenda, part, origin)


def advance(column, agenda, part, before):
    """See one more symbol of a part that was seen at the position before."""
    rule, seen, origin = part
    longer = (rule, seen + 1, origin)
    if longer in column.links:
        column.links[longer].append(before)
    else:
        column.links[longer] = [before]
        agenda.append(longer)
