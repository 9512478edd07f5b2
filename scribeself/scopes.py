"""Graphs of scopes, and what references mean in them by a policy.

A way is a step that a path can take: `(label, edge, scope, state)` with the edge, and the scope and the state to
which it leads. The end of a path is a way, too, with the empty string as its label.
"""

from scribeself.errors import GrammarError, NameFault
from scribeself.grammars import is_name

NO_EDGE = -1


def check_graph(graph):
    """Return None, or raise GrammarError for the first part of a graph that is wrong."""
    _, size, edges, declarations, references = graph
    for at, (scope, label, other) in enumerate(edges):
        if not 0 <= scope < size or not is_name(label) or not 0 <= other < size:
            raise GrammarError("edge", at)
    check_names("declaration", declarations, size)
    check_names("reference", references, size)


def check_names(kind, parts, size):
    """Raise GrammarError for the first of the declarations or references that is wrong."""
    for at, (scope, name) in enumerate(parts):
        if not 0 <= scope < size or not is_name(name):
            raise GrammarError(kind, at)


def check_policy(policy):
    """Return None, or raise GrammarError for the first part of a policy that is wrong."""
    _, _, _, moves, order = policy
    known = {}
    for at, (state, label, _) in enumerate(moves):
        if not is_name(label) or (state, label) in known:
            raise GrammarError("move", at)
        known[(state, label)] = True
    for at, pair in enumerate(order):
        if not all([label == "" or is_name(label) for label in pair]):
            raise GrammarError("order", at)
    for at, (first, second) in enumerate(order):
        if first == second or first in labels_behind(order[:at], second):
            raise GrammarError("order", at)


def labels_behind(order, label):
    """A dict of the labels before which a label comes, also through others."""
    found = {}
    todo = [label]
    while todo:
        upper = todo.pop()
        for first, second in order:
            if first == upper and second not in found:
                found[second] = True
                todo.append(second)
    return found


class Search:
    """What is needed to look for the resolutions of a reference."""

    def __init__(self, graph, policy, reference):
        _, _, edges, declarations, references = graph
        _, self.start, finals, moves, order = policy
        self.scope, name = references[reference]
        self.finals = {state: True for state in finals}
        self.moves = {(state, label): after for state, label, after in moves}
        self.behind = {first: labels_behind(order, first) for first, _ in order}
        self.leading = {}
        for at, (scope, label, other) in enumerate(edges):
            self.leading.setdefault(scope, []).append((label, at, other))
        self.places = {}
        for at, (scope, declared) in enumerate(declarations):
            if declared == name:
                self.places.setdefault(scope, []).append(at)

    def has_end(self, scope, state):
        """Whether a path may end in a scope and a state with a declaration."""
        return state in self.finals and scope in self.places

    def ways(self, scope, state, passed):
        """The ways from a scope and a state, beside those to scopes that a path has passed."""
        found = [("", NO_EDGE, scope, state)] if self.has_end(scope, state) else []
        for label, at, other in self.leading.get(scope, []):
            if (state, label) in self.moves and other not in passed:
                found.append((label, at, other, self.moves[(state, label)]))
        return found

    def is_hidden(self, label, ways, passed):
        """Whether one of the ways that leads to a declaration comes before those with a label."""
        return any([label in self.behind.get(way[0], {}) and self.arrives(way, passed) for way in ways])

    def arrives(self, way, passed):
        """Whether a path that has passed some scopes can go a way and come to a declaration."""
        if way[0] == "":
            return True
        todo = [(way[2], way[3], passed + (way[2],))]
        while todo:
            scope, state, behind = todo.pop()
            trail = self.trail(scope, state, behind)
            if trail and len(set(trail)) == len(trail):
                return True
            if trail:
                # The shortest way to a declaration meets a scope twice, so longer ones are tried.
                ways = self.ways(scope, state, behind)
                spots = {(other, after): True for label, _, other, after in ways if label != ""}
                todo.extend([(other, after, behind + (other,)) for other, after in spots])
        return False

    def trail(self, scope, state, passed):
        """The scopes, from the last to the first, of a shortest path to a declaration on which a scope may occur twice.

        It keeps away from the scopes that have been passed. It is empty if there is none.
        """
        barred = {other: True for other in passed}
        above = {(scope, state): None}
        spots = [(scope, state)]
        done = 0
        while done < len(spots):
            spot = spots[done]
            done += 1
            if self.has_end(spot[0], spot[1]):
                return trail_to(spot, above)
            for label, _, other, after in self.ways(spot[0], spot[1], barred):
                if label != "" and (other, after) not in above:
                    above[(other, after)] = spot
                    spots.append((other, after))
        return []


def trail_to(spot, above):
    """The scopes on the way back from a spot, by a dict from spots to the ones before."""
    scopes = []
    while spot is not None:
        scopes.append(spot[0])
        spot = above[spot]
    return scopes


def visible(graph, policy, reference):
    """The ascending list of the visible resolutions of a reference, pairs of a path and a declaration."""
    search = Search(graph, policy, reference)
    found = []
    todo = [((), search.scope, search.start, (search.scope,))]
    while todo:
        path, scope, state, passed = todo.pop()
        for label, at, other, after in best_ways(search, scope, state, passed):
            if label == "":
                found.extend([(path, declaration) for declaration in search.places[scope]])
            else:
                todo.append((path + (at,), other, after, passed + (other,)))
    return sorted(found)


def best_ways(search, scope, state, passed):
    """The ways that no other one hides; of several ways only those that lead to a declaration."""
    ways = search.ways(scope, state, passed)
    if len(ways) < 2:
        return ways
    ways = [way for way in ways if search.arrives(way, passed)]
    return [way for way in ways if not search.is_hidden(way[0], ways, passed)]


def meaning(graph, policy, reference):
    """The ascending list of the declarations that a reference can mean."""
    return sorted({declaration for _, declaration in visible(graph, policy, reference)})


def resolve(graph, policy):
    """The list of the declarations that the references mean; raise NameFault for the first one that means none."""
    found = []
    for reference in range(len(graph[4])):
        declarations = meaning(graph, policy, reference)
        if len(declarations) != 1:
            raise NameFault(reference)
        found.extend(declarations)
    return found


def path_right(graph, policy, reference, path, declaration):
    """Whether a path and a declaration are a visible resolution of a reference."""
    search = Search(graph, policy, reference)
    scope, state, passed = search.scope, search.start, (search.scope,)
    for edge in path:
        ways = search.ways(scope, state, passed)
        taken = [way for way in ways if way[0] != "" and way[1] == edge]
        if not taken or search.is_hidden(taken[0][0], ways, passed):
            return False
        _, _, scope, state = taken[0]
        passed += (scope,)
    if not search.has_end(scope, state) or declaration not in search.places[scope]:
        return False
    return not search.is_hidden("", search.ways(scope, state, passed), passed)
