"""Graphs and policies by chance, and slow but plain ways to find what references mean."""

import itertools

from scribeself.scopes import check_graph, check_policy

LABELS = ["up", "use", "in"]


def some_graph(chance):
    size = chance.randint(1, 5)
    edges = [(chance.randrange(size), chance.choice(LABELS), chance.randrange(size))
             for _ in range(chance.randint(0, 8))]
    declarations = [(chance.randrange(size), chance.choice("xxyz")) for _ in range(chance.randint(0, 6))]
    references = [(chance.randrange(size), chance.choice("xxyz")) for _ in range(chance.randint(0, 5))]
    graph = ("graph", size, edges, declarations, references)
    check_graph(graph)
    return graph


def some_policy(chance):
    states = [0, 1, -3][:chance.randint(1, 3)]
    moves = [(state, label, chance.choice(states)) for state in states for label in LABELS if chance.random() < 0.85]
    finals = [state for state in states if chance.random() < 0.8]
    # Pairs of labels that stand in a row in this order do not go in a circle.
    row = chance.sample(LABELS + [""], 4)
    order = [pair for pair in itertools.combinations(row, 2) if chance.random() < 0.4]
    chance.shuffle(moves)
    chance.shuffle(order)
    policy = ("policy", chance.choice(states), finals, moves, order)
    check_policy(policy)
    return policy


def all_paths(graph, scope):
    """All paths from a scope with the scopes on each."""
    found = [((), (scope,))]
    for path, scopes in found:
        for at, (start, _, other) in enumerate(graph[2]):
            if start == scopes[-1] and other not in scopes:
                found.append((path + (at,), scopes + (other,)))
    return found


def allowed(graph, policy, path):
    state = policy[1]
    for at in path:
        after = [next_state for before, label, next_state in policy[3] if (before, label) == (state, graph[2][at][1])]
        if not after:
            return False
        state = after[0]
    return state in policy[2]


def resolutions(graph, policy, reference):
    scope, name = graph[4][reference]
    return [(path, at) for path, scopes in all_paths(graph, scope) if allowed(graph, policy, path)
            for at, declaration in enumerate(graph[3]) if declaration == (scopes[-1], name)]


def comes_before(policy, first, second):
    pairs = set(policy[4])
    while True:
        more = pairs | {(a, d) for (a, b), (c, d) in itertools.product(pairs, pairs) if b == c}
        if more == pairs:
            return (first, second) in pairs
        pairs = more


def hides(graph, policy, one, two):
    labels = [[(at, graph[2][at][1]) for at in path] + [(None, "")] for path in (one, two)]
    for (at, label), (other, against) in zip(*labels):
        if at != other:
            return comes_before(policy, label, against)
    return False


def plain_visible(graph, policy, reference):
    found = resolutions(graph, policy, reference)
    return sorted(one for one in found if not any(hides(graph, policy, other[0], one[0]) for other in found))


def plain_meanings(graph, policy):
    return [sorted({at for _, at in plain_visible(graph, policy, reference)}) for reference in range(len(graph[4]))]
