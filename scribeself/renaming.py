"""Renaming of declarations, together with the references that mean them."""

from scribeself.errors import GrammarError, NameFault
from scribeself.grammars import is_name
from scribeself.scopes import meaning

MOST_KEPT = 12


def meanings(graph, policy):
    """For each reference the ascending list of the declarations that it can mean."""
    return [meaning(graph, policy, reference) for reference in range(len(graph[4]))]


def renamed(graph, declaration, references, new):
    """The graph in which a declaration and some references have a new name."""
    _, size, edges, declarations, uses = graph
    declared = [(scope, new if at == declaration else name) for at, (scope, name) in enumerate(declarations)]
    used = [(scope, new if at in references else name) for at, (scope, name) in enumerate(uses)]
    return ("graph", size, list(edges), declared, used)


def rename(graph, policy, declaration, new):
    """The graph in which a declaration and the references that mean it have a new name.

    Raise GrammarError if the new name is no name, and NameFault for the first reference that could mean others then.
    """
    if not is_name(new):
        raise GrammarError("name", declaration)
    before = meanings(graph, policy)
    after = renamed(graph, declaration, [at for at, found in enumerate(before) if found == [declaration]], new)
    for at, found in enumerate(meanings(after, policy)):
        if found != before[at]:
            raise NameFault(at)
    return after


def unused(graph, wanted):
    """The wanted name if nothing has it, otherwise its beginning with the least number such that nothing has it."""
    known = {name: True for _, name in graph[3] + graph[4]}
    if wanted not in known:
        return wanted
    number = 0
    while wanted[:MOST_KEPT] + str(number) in known:
        number += 1
    return wanted[:MOST_KEPT] + str(number)
