"""The trees of texts that the filters leave."""

from scribeself.charts import Tables, charted
from scribeself.errors import GrammarError
from scribeself.places import Forest, Sieve


def check_filters(grammar, filters):
    """Return None if the filters fit the grammar; raise GrammarError for the first one that does not."""
    for at, sieve in enumerate(filters):
        if not is_filter(grammar[2], sieve):
            raise GrammarError("filter", at)


def is_filter(rules, sieve):
    """Whether a filter names what the rules have."""
    kind = sieve[0]
    if kind == "first":
        _, upper, lower = sieve
        there = is_rule(rules, upper) and is_rule(rules, lower)
        return there and upper != lower and rules[upper][1] == rules[lower][1]
    if kind == "under":
        _, upper, kid, lower = sieve
        return is_rule(rules, upper) and is_rule(rules, lower) and has_kid(rules[upper][3], kid, rules[lower][1])
    return sieve[1] in [rule[1] for rule in rules]


def is_rule(rules, at):
    """Whether there is a rule with this index."""
    return 0 <= at < len(rules)


def has_kid(symbols, kid, name):
    """Whether the symbol with this index is the one for a name."""
    return 0 <= kid < len(symbols) and symbols[kid] == ("nt", name)


def forest(grammar, filters, text):
    """A dict from the places in the trees that are left to the lists of their alternatives."""
    places = grown(grammar, filters, text).places
    return {place: [(rule, positions) for rule, positions, _ in places[place]] for place in places}


def count(grammar, filters, text):
    """The number of the trees that are left."""
    return grown(grammar, filters, text).total()


def tree(grammar, filters, text, number):
    """The tree with a number; raise TreeError if there is none."""
    return grown(grammar, filters, text).tree(number)


def parse(grammar, filters, text):
    """The first tree; raise TreeError if there is none."""
    return grown(grammar, filters, text).tree(0)


def grown(grammar, filters, text):
    """The forest of a text, read afresh."""
    tables = Tables(grammar)
    return Forest(tables, Sieve(filters), text, charted(tables, text, []))
