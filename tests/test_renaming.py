"""Renaming: points 18.1 to 18.3."""

import copy
import random
import unittest

from scoping import plain_meanings, some_graph, some_policy
from scribeself.errors import GrammarError, NameFault
from scribeself.renaming import meanings, rename, renamed, unused

GRAPH = ("graph", 2, [(1, "up", 0)], [(0, "x"), (1, "y")], [(1, "x"), (1, "y")])
POLICY = ("policy", 0, [0], [(0, "up", 0)], [("", "up")])
FREE = ("policy", 0, [0], [(0, "up", 0)], [])


class RenamingTest(unittest.TestCase):
    def refused(self, at, graph, policy, declaration, new):
        with self.assertRaises(NameFault) as caught:
            rename(graph, policy, declaration, new)
        self.assertEqual(caught.exception.at, at)

    def test_example(self):
        self.assertEqual(rename(GRAPH, POLICY, 0, "z")[3:], ([(0, "z"), (1, "y")], [(1, "z"), (1, "y")]))
        self.assertEqual(rename(GRAPH, POLICY, 0, "z")[:3], GRAPH[:3])
        self.refused(0, GRAPH, POLICY, 0, "y")
        self.assertEqual(unused(GRAPH, "y"), "y0")

    def test_meanings(self):
        self.assertEqual(meanings(GRAPH, POLICY), [[0], [1]])
        self.assertEqual(meanings(GRAPH[:4] + ([(0, "y"), (1, "z"), (0, "x")],), POLICY), [[], [], [0]])
        twice = ("graph", 1, [], [(0, "x"), (0, "x")], [(0, "x")])
        self.assertEqual(meanings(twice, POLICY), [[0, 1]])

    def test_renamed(self):
        graph = GRAPH[:3] + ([(0, "x"), (1, "x"), (0, "y")], [(0, "x"), (1, "x"), (1, "y")])
        self.assertEqual(renamed(graph, 1, [2, 0], "new"), GRAPH[:3] + ([(0, "x"), (1, "new"), (0, "y")], [(0, "new"), (1, "x"), (1, "new")]))
        self.assertEqual(renamed(graph, 2, [], "x")[3:], ([(0, "x"), (1, "x"), (0, "x")], graph[4]))

    def test_exactly_the_references_that_mean_it(self):
        # The second reference can mean two declarations, so it means none of them; the third means another one.
        graph = ("graph", 3, [(1, "up", 0), (2, "up", 0)], [(1, "x"), (0, "x"), (2, "y")], [(1, "x"), (2, "x"), (0, "x"), (2, "y")])
        self.assertEqual(rename(graph, POLICY, 0, "z")[3:], ([(1, "z"), (0, "x"), (2, "y")], [(1, "z"), (2, "x"), (0, "x"), (2, "y")]))
        # Without shadowing the first reference can mean both declarations, and could mean less then.
        self.assertEqual(meanings(graph, FREE), [[0, 1], [1], [1], [2]])
        self.refused(0, graph, FREE, 0, "z")
        self.refused(0, graph, FREE, 1, "z")

    def test_a_reference_that_would_mean_another_one(self):
        graph = ("graph", 2, [(1, "up", 0)], [(0, "x"), (1, "y")], [(0, "x"), (1, "y"), (1, "x"), (1, "x")])
        self.refused(2, graph, POLICY, 0, "y")
        # The inner declaration would be found by references to the outer one.
        self.refused(2, graph, POLICY, 1, "x")

    def test_a_reference_that_would_mean_none_or_one_more(self):
        # A reference without a meaning would get one.
        graph = ("graph", 1, [], [(0, "x")], [(0, "x"), (0, "new"), (0, "other")])
        self.refused(1, graph, POLICY, 0, "new")
        self.refused(2, graph, POLICY, 0, "other")
        self.assertEqual(rename(graph, POLICY, 0, "more")[3:], ([(0, "more")], [(0, "more"), (0, "new"), (0, "other")]))
        # The declaration and another one in its scope.
        graph = ("graph", 1, [], [(0, "x"), (0, "y")], [(0, "y"), (0, "x")])
        self.refused(0, graph, POLICY, 0, "y")
        # A reference that meant several would mean one.
        graph = ("graph", 1, [], [(0, "x"), (0, "x")], [(0, "x")])
        self.refused(0, graph, POLICY, 0, "z")

    def test_the_old_name(self):
        graph = ("graph", 2, [(1, "up", 0)], [(0, "x"), (1, "x"), (1, "x")], [(1, "x"), (0, "x"), (0, "q")])
        for policy in [POLICY, FREE]:
            for declaration in range(3):
                self.assertEqual(rename(graph, policy, declaration, "x"), graph)

    def test_no_name(self):
        for new in ["", "X", "1", "a b", "a" * 17, "a_", "a-b"]:
            with self.assertRaises(GrammarError) as caught:
                rename(GRAPH, POLICY, 1, new)
            self.assertEqual((caught.exception.rule, caught.exception.at), ("name", 1))
        self.assertEqual(rename(GRAPH, POLICY, 1, "a" * 16)[3], [(0, "x"), (1, "a" * 16)])

    def test_graphs_by_chance(self):
        chance = random.Random(18)
        done = back = refused = 0
        for _ in range(600):
            graph, policy = some_graph(chance), some_policy(chance)
            before = plain_meanings(graph, policy)
            self.assertEqual(meanings(graph, policy), before)
            for declaration, (_, old) in enumerate(graph[3]):
                mine = [at for at, found in enumerate(before) if found == [declaration]]
                for new in ["x", "y", "z", "new"]:
                    told = (graph[:3] + ([(scope, new if at == declaration else name) for at, (scope, name) in enumerate(graph[3])],
                                         [(scope, new if at in mine else name) for at, (scope, name) in enumerate(graph[4])]))
                    faults = [at for at, found in enumerate(plain_meanings(told, policy)) if found != before[at]]
                    if faults:
                        refused += 1
                        self.refused(faults[0], graph, policy, declaration, new)
                        self.assertNotEqual(new, old)
                        if new == "new":
                            self.assertTrue(any(declaration in found and len(found) > 1 for found in before))
                    else:
                        done += 1
                        after = rename(graph, policy, declaration, new)
                        self.assertEqual(after, told)
                        if old not in [name for at, (_, name) in enumerate(after[3]) if at != declaration] + [after[4][at][1] for at in range(len(after[4])) if at not in mine]:
                            back += 1
                        self.assertEqual(rename(after, policy, declaration, old), graph)
        self.assertGreater(min(done, back, refused), 200)

    def test_unused(self):
        graph = ("graph", 1, [], [(0, "a"), (0, "a0"), (0, "a2")], [(0, "a1"), (0, "b"), (0, "abcdefghijklmnop"), (0, "abcdefghijkl0")])
        self.assertEqual([unused(graph, name) for name in ["a", "b", "c", "a0", "a1"]], ["a3", "b0", "c", "a00", "a10"])
        self.assertEqual(unused(graph, "abcdefghijklmnop"), "abcdefghijkl1")
        self.assertEqual(unused(graph, "abcdefghijklmno"), "abcdefghijklmno")
        self.assertEqual(unused(("graph", 0, [], [], []), "a"), "a")
        many = ("graph", 1, [], [(0, "v")] + [(0, "v" + str(k)) for k in range(120)], [])
        self.assertEqual(unused(many, "v"), "v120")

    def test_arguments_stay_and_results_are_new(self):
        graph, policy, references = copy.deepcopy(GRAPH), copy.deepcopy(POLICY), [0]
        for call in [lambda: rename(graph, policy, 0, "z"), lambda: renamed(graph, 0, references, "z"), lambda: rename(graph, policy, 0, "x"),
                     lambda: meanings(graph, policy)]:
            found = call()
            told = copy.deepcopy(found)
            for part in found[2:] if isinstance(found, tuple) else [found, found[0]]:
                part.clear()
            self.assertEqual((graph, policy, references), (GRAPH, POLICY, [0]))
            self.assertEqual(call(), told)


if __name__ == "__main__":
    unittest.main()
