"""Scopes: points 17.1 to 17.7."""

import copy
import itertools
import random
import unittest

from scoping import all_paths, plain_meanings, plain_visible, resolutions, some_graph, some_policy
from scribeself.errors import GrammarError, NameFault
from scribeself.scopes import check_graph, check_policy, meaning, path_right, resolve, visible

GRAPH = ("graph", 3, [(2, "up", 1), (1, "up", 0)], [(0, "x"), (1, "x"), (1, "y")], [(2, "x"), (2, "z")])
POLICY = ("policy", 0, [0], [(0, "up", 0)], [("", "up")])
LONG = "abcdefghij012345"


class CheckTest(unittest.TestCase):
    def wrong(self, check, part, told):
        with self.assertRaises(GrammarError) as caught:
            check(part)
        self.assertEqual((caught.exception.rule, caught.exception.at), told)

    def graph(self, told, size=2, edges=(), declarations=(), references=()):
        graph = ("graph", size, list(edges), list(declarations), list(references))
        if told is None:
            self.assertIsNone(check_graph(graph))
        else:
            self.wrong(check_graph, graph, told)

    def policy(self, told, moves=(), order=()):
        policy = ("policy", 0, [0], list(moves), list(order))
        if told is None:
            self.assertIsNone(check_policy(policy))
        else:
            self.wrong(check_policy, policy, told)

    def test_right_graphs(self):
        self.graph(None)
        self.graph(None, size=0)
        self.graph(None, edges=[(0, "up", 1), (0, "up", 1), (1, LONG, 1)], declarations=[(1, "x1"), (1, "x1")], references=[(0, LONG), (1, "a")])
        self.assertIsNone(check_graph(GRAPH))

    def test_edges(self):
        for edge in [(2, "up", 0), (0, "up", 2), (-1, "up", 0), (0, "up", -1), (0, "", 1), (0, "Up", 1), (0, "1a", 1), (0, LONG + "x", 1), (0, "a b", 1)]:
            self.graph(("edge", 0), edges=[edge])
            self.graph(("edge", 2), edges=[(0, "up", 1), (1, "up", 0), edge, edge], declarations=[(9, "x")], references=[(9, "x")])
        self.graph(("edge", 0), size=0, edges=[(0, "up", 0)])

    def test_declarations_and_references(self):
        for part in [(2, "x"), (-1, "x"), (0, ""), (0, "X"), (0, "9"), (0, LONG + "x"), (0, "a_b")]:
            self.graph(("declaration", 0), declarations=[part])
            self.graph(("declaration", 1), declarations=[(0, "x"), part, part], references=[(9, "x")])
            self.graph(("reference", 0), references=[part])
            self.graph(("reference", 1), edges=[(0, "up", 1)], declarations=[(1, "y")], references=[(1, "x"), part, part])
        self.graph(("declaration", 0), size=0, declarations=[(0, "x")])
        self.graph(("reference", 0), size=0, references=[(0, "x")])

    def test_right_policies(self):
        self.policy(None)
        self.policy(None, moves=[(0, "up", 1), (0, "use", 1), (1, "up", 0), (-5, "up", 0)],
                    order=[("", "up"), ("up", "use"), ("", "use"), ("", "up"), ("a", "b")])

    def test_moves(self):
        for move in [(1, "", 0), (1, "Up", 0), (1, LONG + "x", 0), (0, "up", 0), (0, "up", 7)]:
            self.policy(("move", 2), moves=[(0, "up", 0), (1, "up", 0), move, (0, "", 0)], order=[("A", "b")])
        self.policy(("move", 1), moves=[(0, "up", 0), (0, "up", 0), (0, "", 0)])
        self.policy(("move", 1), moves=[(0, "up", 0), (0, "", 0), (0, "up", 0)])

    def test_order(self):
        for pair in [("A", "up"), ("up", "A"), ("", " "), (LONG + "x", "up"), ("1", "")]:
            self.policy(("order", 2), order=[("a", "b"), ("b", "a"), pair, pair])
        for pair in [("a", "a"), ("", ""), ("b", "a"), ("c", "a"), ("c", "b")]:
            self.policy(("order", 2), order=[("a", "b"), ("b", "c"), pair, ("a", "a")])
        self.policy(("order", 0), order=[("up", "up")])
        self.policy(("order", 1), order=[("", "up"), ("up", "")])
        self.policy(("order", 4), order=[("d", "e"), ("b", "c"), ("a", "b"), ("c", "d"), ("e", "a")])
        self.policy(None, order=[("d", "e"), ("b", "c"), ("a", "b"), ("c", "d"), ("a", "e")])

    def test_order_by_chance(self):
        chance = random.Random(172)
        for _ in range(200):
            order = [(chance.choice("abcde"), chance.choice("abcde")) for _ in range(chance.randint(0, 7))]
            told = None
            pairs = set()
            for at, pair in enumerate(order):
                pairs.add(pair)
                for middle in "abcde":
                    pairs |= {(one, two) for one in "abcde" for two in "abcde" if (one, middle) in pairs and (middle, two) in pairs}
                if told is None and any(one == two for one, two in pairs):
                    told = ("order", at)
            self.policy(told, order=order)


class MeaningTest(unittest.TestCase):
    def test_example(self):
        self.assertEqual(visible(GRAPH, POLICY, 0), [((0,), 1)])
        self.assertEqual([meaning(GRAPH, POLICY, 0), meaning(GRAPH, POLICY, 1)], [[1], []])
        free = ("policy", 0, [0], [(0, "up", 0)], [])
        self.assertEqual(meaning(GRAPH, free, 0), [0, 1])
        self.assertEqual(visible(GRAPH, free, 0), [((0,), 1), ((0, 1), 0)])

    def test_resolve(self):
        with self.assertRaises(NameFault) as caught:
            resolve(GRAPH, POLICY)
        self.assertEqual(caught.exception.at, 1)
        fine = GRAPH[:4] + ([(2, "x"), (1, "y"), (0, "x"), (2, "x")],)
        self.assertEqual(resolve(fine, POLICY), [1, 2, 0, 1])
        with self.assertRaises(NameFault) as caught:
            resolve(fine, ("policy", 0, [0], [(0, "up", 0)], []))
        self.assertEqual(caught.exception.at, 0)
        with self.assertRaises(NameFault) as caught:
            resolve(GRAPH[:4] + ([(2, "y"), (0, "y"), (0, "z")],), POLICY)
        self.assertEqual(caught.exception.at, 1)
        self.assertEqual(resolve(GRAPH[:4] + ([],), POLICY), [])

    def test_two_declarations_in_one_scope(self):
        graph = ("graph", 1, [], [(0, "x"), (0, "y"), (0, "x")], [(0, "x"), (0, "y")])
        self.assertEqual(visible(graph, POLICY, 0), [((), 0), ((), 2)])
        self.assertEqual([meaning(graph, POLICY, 0), meaning(graph, POLICY, 1)], [[0, 2], [1]])

    def test_states(self):
        # One step by "use" at most, and only at the beginning; the path must end behind it or without it.
        policy = ("policy", 0, [0, 2], [(0, "use", 1), (1, "up", 2)], [])
        graph = ("graph", 3, [(0, "use", 1), (1, "up", 2), (0, "up", 2), (2, "use", 1)], [(1, "x"), (2, "x"), (0, "y")], [(0, "x"), (0, "y")])
        self.assertEqual(visible(graph, policy, 0), [((0, 1), 1)])
        self.assertEqual(visible(graph, policy, 1), [((), 2)])
        self.assertEqual(visible(graph, ("policy", 1, [2], [(1, "up", 2)], []), 0), [((2,), 1)])
        self.assertEqual(visible(graph, ("policy", 1, [], [(1, "up", 2)], []), 0), [])

    def test_circles(self):
        graph = ("graph", 3, [(0, "up", 1), (1, "up", 2), (2, "up", 0), (0, "up", 0), (1, "up", 0)], [(0, "x"), (1, "y"), (2, "z")],
                 [(0, "x"), (0, "y"), (0, "z"), (1, "x")])
        free = ("policy", 0, [0], [(0, "up", 0)], [])
        self.assertEqual([visible(graph, free, k) for k in range(4)], [[((), 0)], [((0,), 1)], [((0, 1), 2)], [((1, 2), 0), ((4,), 0)]])
        self.assertEqual(meaning(graph, free, 3), [0])
        self.assertFalse(path_right(graph, free, 0, (3,), 0))
        self.assertFalse(path_right(graph, free, 0, (0, 4), 0))

    def test_several_edges(self):
        graph = ("graph", 2, [(0, "up", 1), (0, "use", 1), (0, "up", 1)], [(1, "x")], [(0, "x")])
        moves = [(0, "up", 0), (0, "use", 0)]
        self.assertEqual(visible(graph, ("policy", 0, [0], moves, []), 0), [((0,), 0), ((1,), 0), ((2,), 0)])
        self.assertEqual(visible(graph, ("policy", 0, [0], moves, [("use", "up")]), 0), [((1,), 0)])
        self.assertEqual(visible(graph, ("policy", 0, [0], moves, [("up", "use")]), 0), [((0,), 0), ((2,), 0)])

    def test_the_order_of_the_end(self):
        graph = ("graph", 2, [(0, "up", 1)], [(0, "x"), (1, "x")], [(0, "x")])
        for order, told in [([("", "up")], [((), 0)]), ([("up", "")], [((0,), 1)]), ([], [((), 0), ((0,), 1)]),
                            ([("", "use"), ("use", "up")], [((), 0)])]:
            self.assertEqual(visible(graph, ("policy", 0, [0], [(0, "up", 0)], order), 0), told)

    def test_only_paths_to_declarations_hide(self):
        graph = ("graph", 4, [(0, "use", 1), (0, "up", 2), (1, "use", 3)], [(2, "x"), (1, "y"), (3, "y")], [(0, "x"), (0, "y")])
        policy = ("policy", 0, [0], [(0, "use", 0), (0, "up", 0)], [("use", "up"), ("use", "")])
        self.assertEqual(visible(graph, policy, 0), [((1,), 0)])
        self.assertEqual(visible(graph, policy, 1), [((0, 2), 2)])

    def test_hidden_paths_hide_others(self):
        # The path by "in" is hidden by the one by "use", and hides the one by "up", as the order goes on through others.
        graph = ("graph", 4, [(0, "up", 1), (0, "in", 2), (0, "use", 3)], [(1, "x"), (2, "x"), (3, "x")], [(0, "x")])
        moves = [(0, label, 0) for label in ["up", "in", "use"]]
        self.assertEqual(visible(graph, ("policy", 0, [0], moves, [("in", "up"), ("use", "in")]), 0), [((2,), 2)])
        self.assertEqual(visible(graph, ("policy", 0, [0], moves, [("in", "up")]), 0), [((1,), 1), ((2,), 2)])

    def test_a_shortest_way_that_meets_a_scope_twice(self):
        # From scope 1 the steps lead to the declaration of x in scope 4 only by scope 2, then 3, then 2 again.
        edges = [(0, "in", 1), (0, "up", 5), (1, "use", 2), (2, "use", 3), (3, "use", 2), (2, "up", 4)]
        moves = [(0, "in", 1), (0, "up", 9), (1, "use", 2), (2, "use", 3), (3, "use", 4), (4, "up", 9), (4, "use", 5), (5, "up", 9)]
        policy = ("policy", 0, [9], moves, [("in", "up")])
        graph = ("graph", 10, edges, [(4, "x"), (5, "x")], [(0, "x")])
        self.assertEqual(visible(graph, policy, 0), [((1,), 1)])
        self.assertIs(path_right(graph, policy, 0, (1,), 1), True)
        self.assertIs(path_right(graph, policy, 0, (0, 2, 3, 4, 5), 0), False)
        # With a longer way that meets no scope twice, the path by "in" hides the other one.
        more = edges + [(1, "use", 6), (6, "use", 7), (7, "use", 8), (8, "use", 9), (9, "up", 4)]
        graph = ("graph", 10, more, [(4, "x"), (5, "x")], [(0, "x")])
        self.assertEqual(visible(graph, policy, 0), plain_visible(graph, policy, 0))
        self.assertEqual(visible(graph, policy, 0), [((0, 6, 7, 8, 9, 10), 0)])
        self.assertIs(path_right(graph, policy, 0, (1,), 1), False)
        # The same with a way back to scope 2 from the way round.
        graph = ("graph", 10, more[:6] + [(3, "use", 6), (6, "use", 9), (9, "up", 4)], [(4, "x"), (5, "x")], [(0, "x")])
        self.assertEqual(visible(graph, policy, 0), plain_visible(graph, policy, 0))
        self.assertEqual(visible(graph, policy, 0), [((0, 2, 3, 6, 7, 8), 0)])

    def test_graphs_by_chance(self):
        chance = random.Random(17)
        shadowed = several = 0
        for _ in range(1500):
            graph, policy = some_graph(chance), some_policy(chance)
            told = plain_meanings(graph, policy)
            for reference in range(len(graph[4])):
                found = plain_visible(graph, policy, reference)
                self.assertEqual(visible(graph, policy, reference), found)
                self.assertEqual(meaning(graph, policy, reference), told[reference])
                shadowed += len(resolutions(graph, policy, reference)) > len(found)
                several += len(found) > 1
            faults = [at for at, found in enumerate(told) if len(found) != 1]
            if faults:
                with self.assertRaises(NameFault) as caught:
                    resolve(graph, policy)
                self.assertEqual(caught.exception.at, faults[0])
            else:
                self.assertEqual(resolve(graph, policy), [found[0] for found in told])
        self.assertGreater(min(shadowed, several), 100)

    def test_paths_by_chance(self):
        chance = random.Random(177)
        for _ in range(250):
            graph, policy = some_graph(chance), some_policy(chance)
            for reference, (scope, _) in enumerate(graph[4]):
                right = plain_visible(graph, policy, reference)
                paths = [path for path, _ in all_paths(graph, scope)]
                paths += [tuple(chance.randint(-2, len(graph[2]) + 1) for _ in range(chance.randint(1, 3))) for _ in range(5)]
                for path, declaration in itertools.product(paths, range(-2, len(graph[3]) + 2)):
                    self.assertIs(path_right(graph, policy, reference, path, declaration), (path, declaration) in right)

    def test_many_paths_that_are_hidden(self):
        # 2**40 paths, but at each scope one label comes first.
        edges = [(at, label, at + 1) for at in range(40) for label in ["up", "use"]]
        moves = [(0, "up", 0), (0, "use", 0)]
        graph = ("graph", 41, edges, [(40, "x")], [(0, "x"), (0, "y")])
        policy = ("policy", 0, [0], moves, [("use", "up")])
        best = tuple(range(1, 80, 2))
        self.assertEqual(visible(graph, policy, 0), [(best, 0)])
        self.assertEqual(visible(graph, policy, 1), [])
        self.assertTrue(path_right(graph, policy, 0, best, 0))
        self.assertFalse(path_right(graph, policy, 0, (0,) + best[1:], 0))
        self.assertTrue(path_right(graph, ("policy", 0, [0], moves, []), 0, (0,) + best[1:], 0))

    def test_a_long_chain(self):
        graph = ("graph", 400, [(at, "up", at - 1) for at in range(1, 400)], [(0, "x"), (200, "y"), (0, "y")], [(399, "x"), (399, "y"), (399, "z")])
        self.assertEqual([meaning(graph, POLICY, k) for k in range(3)], [[0], [1], []])
        self.assertEqual(visible(graph, POLICY, 0), [(tuple(range(398, -1, -1)), 0)])

    def test_arguments_stay_and_results_are_new(self):
        graph, policy = copy.deepcopy(GRAPH), copy.deepcopy(POLICY)
        for call in [lambda: visible(graph, policy, 0), lambda: meaning(graph, policy, 0), lambda: resolve(graph[:4] + ([(2, "x")],), policy)]:
            found = call()
            told = list(found)
            found.append("more")
            self.assertEqual(call(), told)
        check_graph(graph)
        check_policy(policy)
        path_right(graph, policy, 0, (0,), 1)
        self.assertEqual((graph, policy), (GRAPH, POLICY))


if __name__ == "__main__":
    unittest.main()
