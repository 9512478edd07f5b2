"""Parts of trees: points 4.1 and 6.1."""

import copy
import random
import unittest

from oracles import as_tree, all_trees, some_grammar, some_text
from scribeself.errors import EditError
from scribeself.forests import parse
from scribeself.trees import deepest, fits, nodes, replaced, subtree, text_of
from shapes import node

ONE = node(1, "1")
SUM = node(0, ONE, "+", ONE)
RULES = [("rule", "s", "all", [("lit", "ab"), ("class", "xy"), ("run", "0123"), ("nt", "t")]),
         ("rule", "t", "none", []), ("rule", "t", "loop", [("nt", "t")]), ("rule", "t", "pair", [("nt", "t"), ("nt", "s")])]
# Rule 2 lets t derive itself alone: `fits` is given such grammars, too.
GRAMMAR = ("grammar", "s", RULES)
GOOD = node(0, "ab", "x", "30", node(1))


def all_by_calls(tree, path, start):
    """The rows of `nodes`, found with calls."""
    rows = []
    at = start
    for k, kid in enumerate(tree[2]):
        if isinstance(kid, str):
            at += len(kid)
        else:
            below = all_by_calls(kid, path + (k,), at)
            rows.extend(below)
            at = below[0][3]
    return [(path, tree[1], start, at)] + rows


def deep_tree(deep):
    tree = node(1)
    for _ in range(deep):
        tree = node(0, "(", tree, ")")
    return tree


class TextTest(unittest.TestCase):
    def test_text_of(self):
        self.assertEqual(text_of(SUM), "1+1")
        self.assertEqual(text_of("kid"), "kid")
        self.assertEqual(text_of(""), "")
        self.assertEqual(text_of(node(1)), "")
        self.assertEqual(text_of(node(0, "a", node(1, "b", node(2), "c"), "d")), "abcd")
        self.assertEqual(text_of(deep_tree(130)), "(" * 130 + ")" * 130)


class FitsTest(unittest.TestCase):
    def test_fits(self):
        for tree in [GOOD, node(1), node(2, node(2, node(1))), node(3, node(1), GOOD), node(0, "ab", "y", "0", node(2, node(1)))]:
            self.assertIs(fits(GRAMMAR, tree), True, tree)

    def test_wrong_kids(self):
        for kids in [("ac", "x", "30", node(1)), ("", "x", "30", node(1)), ("a", "x", "30", node(1)),
                     ("ab", "z", "30", node(1)), ("ab", "", "30", node(1)), ("ab", "xy", "30", node(1)),
                     ("ab", "x", "", node(1)), ("ab", "x", "34", node(1)), ("ab", "x", "x", node(1)),
                     ("ab", "x", "30", ""), ("ab", "x", "30", "t"), ("ab", "x", "30", GOOD),
                     (node(1), "x", "30", node(1)), ("ab", node(1), "30", node(1)), ("ab", "x", node(1), node(1)),
                     ("ab", "x", "30"), ("ab", "x", "30", node(1), ""), ("ab", "x", "30", node(1), node(1)), (),
                     ("x", "ab", "30", node(1))]:
            self.assertIs(fits(GRAMMAR, node(0, *kids)), False, kids)
            self.assertIs(fits(GRAMMAR, node(3, node(1), node(0, *kids))), False, kids)
        self.assertIs(fits(GRAMMAR, node(1, "")), False)
        self.assertIs(fits(GRAMMAR, node(1, node(1))), False)
        self.assertIs(fits(GRAMMAR, node(2)), False)
        self.assertIs(fits(GRAMMAR, node(2, GOOD)), False)

    def test_runs_may_be_any_stretch(self):
        rules = [("rule", "s", "all", [("run", "a"), ("run", "a")])]
        self.assertIs(fits(("grammar", "s", rules), node(0, "a", "aa")), True)

    def test_trees_of_texts_fit(self):
        chance = random.Random(5)
        for _ in range(100):
            grammar = some_grammar(chance)
            for trees in all_trees(grammar, some_text(chance, 4)).values():
                for frozen in list(trees)[:20]:
                    self.assertIs(fits(grammar, as_tree(frozen)), True)

    def test_deep(self):
        rules = [("rule", "s", "in", [("lit", "("), ("nt", "s"), ("lit", ")")]), ("rule", "s", "out", [])]
        self.assertIs(fits(("grammar", "s", rules), deep_tree(130)), True)
        self.assertIs(fits(("grammar", "s", rules), node(0, "(", deep_tree(130), "]")), False)


class NodesTest(unittest.TestCase):
    def test_nodes(self):
        self.assertEqual(nodes(SUM), [((), 0, 0, 3), ((0,), 1, 0, 1), ((2,), 1, 2, 3)])
        self.assertEqual(nodes(node(1)), [((), 1, 0, 0)])
        tree = node(5, node(1), "ab", node(3, "c", node(1), node(2)), node(4, "d"))
        self.assertEqual(nodes(tree), [((), 5, 0, 4), ((0,), 1, 0, 0), ((2,), 3, 2, 3), ((2, 1), 1, 3, 3),
                                       ((2, 2), 2, 3, 3), ((3,), 4, 3, 4)])

    def test_by_calls(self):
        chance = random.Random(6)
        for _ in range(100):
            grammar = some_grammar(chance)
            for trees in all_trees(grammar, some_text(chance, 4)).values():
                for frozen in list(trees)[:20]:
                    tree = as_tree(frozen)
                    self.assertEqual(nodes(tree), all_by_calls(tree, (), 0))
                    for path, rule, start, end in nodes(tree):
                        self.assertEqual(subtree(tree, path)[1], rule)
                        self.assertEqual(text_of(subtree(tree, path)), text_of(tree)[start:end])

    def test_deep(self):
        found = nodes(deep_tree(130))
        self.assertEqual(found[130], ((1,) * 130, 1, 130, 130))
        self.assertEqual(found[1], ((1,), 0, 1, 259))


class PathTest(unittest.TestCase):
    def test_subtree(self):
        self.assertEqual(subtree(SUM, ()), SUM)
        self.assertEqual(subtree(node(0, "a", node(1, node(2, "b"))), (1, 0)), node(2, "b"))

    def test_replaced(self):
        self.assertEqual(replaced(SUM, (), ONE), ONE)
        self.assertEqual(replaced(SUM, (2,), node(1, "9")), node(0, ONE, "+", node(1, "9")))
        tree = node(0, "a", node(1, node(2, "b"), "c"), node(3))
        given = copy.deepcopy(tree)
        self.assertEqual(replaced(tree, (1, 0), node(4)), node(0, "a", node(1, node(4), "c"), node(3)))
        self.assertEqual(tree, given)

    def test_replaced_by_itself(self):
        tree = parse(("grammar", "s", [("rule", "s", "a", [("lit", "x"), ("nt", "s")]), ("rule", "s", "b", [])]), [], "x" * 50)
        for path, _, _, _ in nodes(tree):
            self.assertEqual(replaced(tree, path, subtree(tree, path)), tree)


class DeepestTest(unittest.TestCase):
    #        0  1 2  3  4
    # text:  a  b c  d
    TREE = node(0, "a", node(1, "b", node(2)), node(3, node(4, "c"), node(5)), node(6), node(7, "d"))

    def test_inside(self):
        self.assertEqual(deepest(SUM, 0, 1), (0,))
        self.assertEqual(deepest(SUM, 2, 3), (2,))
        self.assertEqual(deepest(SUM, 0, 2), ())
        self.assertEqual(deepest(SUM, 0, 3), ())
        self.assertEqual(deepest(self.TREE, 2, 3), (2, 0))
        self.assertEqual(deepest(self.TREE, 1, 3), ())

    def test_borders(self):
        self.assertEqual(deepest(SUM, 0, 0), (0,))
        self.assertEqual(deepest(SUM, 1, 1), (0,))
        self.assertEqual(deepest(SUM, 2, 2), (2,))
        self.assertEqual(deepest(SUM, 3, 3), (2,))
        self.assertEqual(deepest(self.TREE, 0, 0), ())
        self.assertEqual(deepest(self.TREE, 1, 1), (1,))
        self.assertEqual(deepest(self.TREE, 2, 2), (1, 1))
        self.assertEqual(deepest(self.TREE, 3, 3), (2, 0))
        self.assertEqual(deepest(self.TREE, 4, 4), (4,))
        self.assertEqual(deepest(node(1), 0, 0), ())

    def test_out_of_the_text(self):
        for start, end in [(-1, 0), (-1, -1), (2, 1), (0, 4), (4, 4), (3, 2)]:
            with self.assertRaises(EditError):
                deepest(SUM, start, end)
        with self.assertRaises(EditError):
            deepest(node(1), 0, 1)

    def test_deep(self):
        self.assertEqual(deepest(deep_tree(130), 130, 130), (1,) * 130)
        self.assertEqual(deepest(deep_tree(130), 10, 11), (1,) * 10)


class SharingTest(unittest.TestCase):
    def test_arguments_stay_and_results_are_new(self):
        tree = node(3, node(1), GOOD)
        grammar = copy.deepcopy(GRAMMAR)
        given = copy.deepcopy(tree)
        for found in [text_of(tree), fits(grammar, tree), nodes(tree), subtree(tree, (1,)), replaced(tree, (0,), node(2, node(1))),
                      deepest(tree, 1, 2)]:
            self.assertEqual((grammar, tree), (GRAMMAR, given))
        nodes(tree).clear()
        self.assertEqual(len(nodes(tree)), 4)


if __name__ == "__main__":
    unittest.main()
