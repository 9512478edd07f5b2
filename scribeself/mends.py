"""Least mends of texts, and papers that show that they are least."""

from scribeself.charts import Tables, charted, is_read
from scribeself.edits import applied
from scribeself.errors import TreeError
from scribeself.grammars import lefts
from scribeself.nearest import CHANGE, Nearest
from scribeself.stretches import numbers_of, rows_between


def changes(first, second):
    """A list of as few changes as possible, in ascending order, that leads from one text to another."""
    rows = rows_between(first, second)
    found = []
    at, to = len(first), len(second)
    while at > 0 or to > 0:
        number = rows[at][to]
        if at > 0 and to > 0 and first[at - 1] == second[to - 1]:
            at, to = at - 1, to - 1
        elif at > 0 and to > 0 and number == rows[at - 1][to - 1] + 1:
            at, to = at - 1, to - 1
            found.append((at, 1, second[to]))
        elif at > 0 and number == rows[at - 1][to] + 1:
            at -= 1
            found.append((at, 1, ""))
        else:
            to -= 1
            found.append((at, 0, second[to]))
    return found[::-1]


def change_count(first, second):
    """The least number of changes that leads from one text to another."""
    return rows_between(first, second)[-1][-1]


def changed(text, edits):
    """The text after changes in ascending order."""
    new = text
    for edit in edits[::-1]:
        new = applied(new, edit)
    return new


def changes_fit(text, edits):
    """Whether edits are changes of a text in ascending order."""
    behind = 0
    for at, removed, new in edits:
        if at < behind or not is_change(text, at, removed, new):
            return False
        behind = at + removed
    return True


def is_change(text, at, removed, new):
    """Whether an edit replaces a character by a different one, removes one, or puts one in."""
    if removed == 0:
        return 0 <= at <= len(text) and len(new) == 1
    return removed == 1 and 0 <= at < len(text) and len(new) <= 1 and new != text[at]


def distance(grammar, text):
    """The least number of changes that leads to a text of the grammar; raise TreeError if it has none."""
    return nearest_choice(grammar, text)[0] // CHANGE


def mend(grammar, text):
    """The pair of the least changes and the best text; raise TreeError if the grammar has no text."""
    new = nearest_choice(grammar, text)[1]
    return changes(text, new), new


def nearest_choice(grammar, text):
    """The choice of the start for the whole text."""
    choice = Nearest(grammar, text).choice(grammar[1], 0, len(text))
    if choice is None:
        raise TreeError("the grammar has no text")
    return choice


def paper(grammar, text):
    """The paper with the greatest numbers, each of which is a distance."""
    nearest = Nearest(grammar, text)
    rows = []
    for name in lefts(grammar):
        for start in range(len(text) + 1):
            for end in range(start, len(text) + 1):
                choice = nearest.choice(name, start, end)
                if choice is not None:
                    rows.append((name, start, end, choice[0] // CHANGE))
    return rows


def paper_right(grammar, text, rows):
    """Whether a list of rows is a right paper."""
    names = lefts(grammar)
    for name, start, end, _ in rows:
        if name not in names or not 0 <= start <= end <= len(text):
            return False
    places = [row[:3] for row in rows]
    if any([places[k] >= places[k + 1] for k in range(len(places) - 1)]):
        return False
    table = row_table(grammar, text, rows)
    return not any([undercuts(rule, table, len(text)) for rule in grammar[2]])


def row_table(grammar, text, rows):
    """A dict from the symbols to lists that have, for each end, a dict from starts to numbers."""
    many = len(text) + 1
    table = {("nt", name): [{} for _ in range(many)] for name in lefts(grammar)}
    for name, start, end, number in rows:
        table[("nt", name)][end][start] = number
    for rule in grammar[2]:
        for symbol in rule[3]:
            if symbol not in table:
                table[symbol] = leaf_ends(numbers_of(symbol, text))
    return table


def leaf_ends(numbers):
    """The numbers of a literal or class, which are told by starts and lengths, for each end by starts."""
    return [{start: numbers[start][end - start] for start in range(end + 1)} for end in range(len(numbers))]


def undercuts(rule, table, size):
    """Whether a rule undercuts the paper at a stretch of a text of this size."""
    _, left, _, symbols = rule
    for start in range(size + 1):
        sums = {start: 0}
        for symbol in symbols:
            sums = sums_behind(sums, table[symbol])
        if not symbols:
            sums = {end: end - start for end in range(start, size + 1)}
        # Where there is no row, every sum undercuts the paper.
        for end in sums:
            if sums[end] < table[("nt", left)][end].get(start, sums[end] + 1):
                return True
    return False


def sums_behind(sums, ends):
    """The least sums up to each end, from those up to the positions ahead of one more symbol."""
    found = {}
    for end, numbers in enumerate(ends):
        least = min([sums[at] + numbers[at] for at in sums if at in numbers], default=None)
        if least is not None:
            found[end] = least
    return found


def accepted(grammar, text, edits, rows):
    """Whether edits lead to a text of the grammar and rows show that they are as few as possible."""
    if not changes_fit(text, edits) or (grammar[1], 0, len(text), len(edits)) not in rows:
        return False
    tables = Tables(grammar)
    new = changed(text, edits)
    return is_read(tables, new, charted(tables, new, [])) and paper_right(grammar, text, rows)
