"""Trees and filters: points 4.1 to 4.5."""

import copy
import itertools
import random
import unittest

from oracles import PlainForest, as_tree, passes, some_filters, some_grammar, some_text
from scribeself.errors import GrammarError, TreeError
from scribeself.forests import check_filters, count, forest, parse, tree
from scribeself.grammars import check
from scribeself.trees import fits, text_of
from shapes import lit, node, nt, rule

SUM = ("grammar", "e", [rule("e", "sum", nt("e"), lit("+"), nt("e")), rule("e", "one", ("class", "1"))])
TWICE = ("grammar", "s", [rule("s", "two", nt("s"), nt("s")), rule("s", "one", lit("a"))])
ONE = node(1, "1")


class CheckFiltersTest(unittest.TestCase):
    def fault(self, grammar, filters):
        with self.assertRaises(GrammarError) as caught:
            check_filters(grammar, filters)
        return caught.exception.rule, caught.exception.at

    def test_correct(self):
        filters = [("under", 0, 0, 0), ("under", 0, 2, 1), ("stop", "e", ""), ("stop", "e", "+"), ("bar", "e", []),
                   ("bar", "e", ["", "1"]), ("first", 0, 1), ("first", 1, 0)]
        self.assertIsNone(check_filters(SUM, filters))
        self.assertIsNone(check_filters(SUM, []))

    def test_rules_that_are_not_there(self):
        for sieve in [("first", 0, 2), ("first", 2, 0), ("first", -1, 0), ("first", 0, -1), ("under", 2, 0, 0),
                      ("under", 0, 0, 2), ("under", -1, 0, 0), ("under", 0, 0, -1)]:
            self.assertEqual(self.fault(SUM, [("stop", "e", "x"), sieve]), ("filter", 1), sieve)

    def test_first(self):
        grammar = ("grammar", "a", [rule("a", "one"), rule("b", "two"), rule("a", "three", lit("x"))])
        self.assertIsNone(check_filters(grammar, [("first", 0, 2)]))
        self.assertEqual(self.fault(grammar, [("first", 0, 1)]), ("filter", 0))
        self.assertEqual(self.fault(grammar, [("first", 0, 2), ("first", 2, 2)]), ("filter", 1))

    def test_under(self):
        for kid in [-3, -1, 1, 3]:
            self.assertEqual(self.fault(SUM, [("under", 0, kid, 0)]), ("filter", 0), kid)
        grammar = ("grammar", "a", [rule("a", "one", nt("b"), lit("b")), rule("b", "two"), rule("a", "three", lit("x"))])
        self.assertIsNone(check_filters(grammar, [("under", 0, 0, 1)]))
        self.assertEqual(self.fault(grammar, [("under", 0, 0, 2)]), ("filter", 0))
        self.assertEqual(self.fault(grammar, [("under", 0, 1, 1)]), ("filter", 0))

    def test_names_without_rules(self):
        self.assertEqual(self.fault(SUM, [("stop", "f", "x")]), ("filter", 0))
        self.assertEqual(self.fault(SUM, [("bar", "e", ["x"]), ("bar", "", [])]), ("filter", 1))

    def test_the_first_fault(self):
        filters = [("stop", "e", "x"), ("first", 1, 1), ("bar", "f", [])]
        self.assertEqual(self.fault(SUM, filters), ("filter", 1))


class SymbolsTest(unittest.TestCase):
    """Trees for each kind of symbol."""

    def one(self, symbols, text, *kids):
        grammar = ("grammar", "s", [rule("s", "all", *symbols), rule("e", "empty")])
        check(grammar)
        if kids:
            self.assertEqual(count(grammar, [], text), 1)
            self.assertEqual(parse(grammar, [], text), node(0, *kids))
        else:
            self.assertEqual((count(grammar, [], text), forest(grammar, [], text)), (0, {}))
            for number in [0, 1]:
                with self.assertRaises(TreeError):
                    tree(grammar, [], text, number)
            with self.assertRaises(TreeError):
                parse(grammar, [], text)

    def test_literals(self):
        self.one([lit("let")], "let", "let")
        self.one([lit("a"), lit("ab\n")], "aab\n", "a", "ab\n")
        for text in ["", "le", "lets", "Let", " let"]:
            self.one([lit("let")], text)

    def test_classes(self):
        self.one([("class", "ab"), ("class", "bc")], "bb", "b", "b")
        for text in ["", "a", "ac ", "ca", "abc"]:
            self.one([("class", "ab"), ("class", "bc")], text)

    def test_runs(self):
        self.one([("run", "ab")], "abba", "abba")
        self.one([("run", "ab"), lit("c")], "aac", "aa", "c")
        for text in ["", "abc", "c"]:
            self.one([("run", "ab")], text)

    def test_runs_are_longest_from_their_position_on(self):
        self.one([("run", "ab"), lit("b")], "aab")
        self.one([("run", "ab"), ("run", "ab")], "ab")
        self.one([lit("a"), ("run", "ab")], "aab", "a", "ab")
        self.one([("run", "a"), ("run", "ab")], "aaba", "aa", "ba")
        self.one([("class", "a"), ("run", "a"), lit("b")], "aab", "a", "a", "b")

    def test_names(self):
        self.one([nt("e"), lit("x"), nt("e")], "x", node(1), "x", node(1))
        self.one([nt("e"), lit("x"), nt("e")], "")

    def test_runs_look_beyond_their_node(self):
        rules = [rule("s", "all", nt("w"), ("class", "ab")), rule("w", "word", ("run", "a"))]
        grammar = ("grammar", "s", rules)
        self.assertEqual(count(grammar, [], "aab"), 1)
        self.assertEqual(count(grammar, [], "aaa"), 0)

    def test_empty_text(self):
        rules = [rule("s", "none"), rule("s", "pair", nt("a"), nt("b")), rule("a", "a0"), rule("b", "b0", nt("a")),
                 rule("b", "b1", lit("x"))]
        grammar = ("grammar", "s", rules)
        self.assertEqual(count(grammar, [], ""), 2)
        self.assertEqual(tree(grammar, [], "", 0), node(0))
        self.assertEqual(tree(grammar, [], "", 1), node(1, node(2), node(3, node(2))))
        places = {("s", 0, 0, ()): [(0, [0]), (1, [0, 0, 0])], ("a", 0, 0, ()): [(2, [0])], ("b", 0, 0, ()): [(3, [0, 0])]}
        self.assertEqual(forest(grammar, [], ""), places)


class OrderTest(unittest.TestCase):
    def test_example(self):
        self.assertEqual(count(SUM, [], "1+1+1"), 2)
        self.assertEqual(count(SUM, [("under", 0, 2, 0)], "1+1+1"), 1)
        self.assertEqual(parse(SUM, [], "1+1"), node(0, ONE, "+", ONE))

    def test_by_positions(self):
        self.assertEqual(forest(SUM, [], "1+1+1")[("e", 0, 5, ())], [(0, [0, 1, 2, 5]), (0, [0, 3, 4, 5])])
        self.assertEqual(tree(SUM, [], "1+1+1", 0), node(0, ONE, "+", node(0, ONE, "+", ONE)))
        self.assertEqual(tree(SUM, [], "1+1+1", 1), node(0, node(0, ONE, "+", ONE), "+", ONE))

    def test_by_rule(self):
        rules = [rule("s", "later", nt("b"), nt("a")), rule("a", "a0"), rule("a", "a1", lit("x")), rule("b", "b0", nt("a")),
                 rule("s", "last", nt("a"))]
        grammar = ("grammar", "s", rules)
        found = forest(grammar, [], "x")
        self.assertEqual(found[("s", 0, 1, ())], [(0, [0, 0, 1]), (0, [0, 1, 1]), (4, [0, 1])])
        self.assertEqual(tree(grammar, [], "x", 2), node(4, node(2, "x")))

    def test_the_last_kid_changes_fastest(self):
        rules = [rule("s", "all", nt("a"), lit("-"), nt("a")), rule("a", "a0", lit("x")), rule("a", "a1", ("class", "x")),
                 rule("a", "a2", ("run", "x"))]
        grammar = ("grammar", "s", rules)
        self.assertEqual(count(grammar, [], "x-x"), 9)
        for number, (one, two) in enumerate(itertools.product([1, 2, 3], repeat=2)):
            self.assertEqual(tree(grammar, [], "x-x", number), node(0, node(one, "x"), "-", node(two, "x")))

    def test_great_numbers(self):
        for number in [2, 3, 10 ** 30]:
            with self.assertRaises(TreeError):
                tree(SUM, [], "1+1+1", number)

    def test_very_many_trees(self):
        catalan = 1
        for k in range(1, 60):
            catalan = catalan * 2 * (2 * k - 1) // (k + 1)
        self.assertEqual(count(TWICE, [], "a" * 60), catalan)
        last = tree(TWICE, [], "a" * 60, catalan - 1)
        depth = 0
        while len(last[2]) == 2:
            self.assertEqual(last[2][1], node(1, "a"))
            last = last[2][0]
            depth += 1
        self.assertEqual(depth, 59)
        middle = tree(TWICE, [], "a" * 60, catalan // 3)
        self.assertTrue(fits(TWICE, middle) and text_of(middle) == "a" * 60)
        with self.assertRaises(TreeError):
            tree(TWICE, [], "a" * 60, catalan)


class FiltersTest(unittest.TestCase):
    def test_under(self):
        left = [("under", 0, 2, 0)]
        self.assertEqual(parse(SUM, left, "1+1+1"), node(0, node(0, ONE, "+", ONE), "+", ONE))
        self.assertIn(("e", 2, 3, (0,)), forest(SUM, left, "1+1"))
        right = [("under", 0, 0, 0), ("under", 0, 0, 0)]
        self.assertEqual(parse(SUM, right, "1+1+1"), node(0, ONE, "+", node(0, ONE, "+", ONE)))
        self.assertIn(("e", 0, 1, (0,)), forest(SUM, right, "1+1"))
        self.assertEqual(count(SUM, left + right, "1+1+1"), 0)
        both = forest(SUM, [("under", 0, 2, 1), ("under", 0, 2, 0)], "1+1")
        self.assertEqual(both, {})

    def test_rules_of_a_place_are_ascending(self):
        rules = [rule("s", "top", nt("a")), rule("a", "a0", lit("x")), rule("a", "a1", ("class", "x")),
                 rule("a", "a2", ("run", "x"))]
        filters = [("under", 0, 0, 3), ("under", 0, 0, 1)]
        found = forest(("grammar", "s", rules), filters, "x")
        self.assertEqual(found, {("s", 0, 1, ()): [(0, [0, 1])], ("a", 0, 1, (1, 3)): [(2, [0, 1])]})

    def test_stop(self):
        rules = [rule("s", "all", nt("w"), nt("w")), rule("w", "more", nt("w"), lit("a")), rule("w", "one", lit("a"))]
        grammar = ("grammar", "s", rules)
        self.assertEqual(count(grammar, [], "aaa"), 2)
        self.assertEqual(count(grammar, [("stop", "w", "a")], "aaa"), 0)
        rest = ("grammar", "s", [rule("s", "all", nt("w"), ("class", "ab")), rule("w", "one", lit("a"))])
        self.assertEqual(count(rest, [("stop", "w", "bc")], "aa"), 1)
        self.assertEqual(count(rest, [("stop", "w", "bc")], "ab"), 0)
        self.assertEqual(count(rest, [("stop", "s", "ab")], "ab"), 1)
        self.assertEqual(count(rest, [("stop", "w", "a"), ("stop", "w", "b")], "aa"), 0)
        self.assertEqual(count(rest, [("stop", "w", "")], "aa"), 1)

    def test_bar(self):
        rules = [rule("s", "key", lit("if")), rule("s", "word", nt("w")), rule("w", "run", ("run", "fi"))]
        grammar = ("grammar", "s", rules)
        self.assertEqual(count(grammar, [], "if"), 2)
        self.assertEqual(parse(grammar, [("bar", "w", ["fi", "if"])], "if"), node(0, "if"))
        self.assertEqual(count(grammar, [("bar", "w", ["fi", "if"])], "fif"), 1)
        self.assertEqual(count(grammar, [("bar", "w", ["fi"]), ("bar", "w", ["if"])], "fi"), 0)
        self.assertEqual(count(grammar, [("bar", "s", ["if"])], "if"), 0)
        self.assertEqual(count(grammar, [("bar", "s", [])], "if"), 2)
        self.assertEqual(count(SUM, [("bar", "e", [""])], "1"), 1)

    def test_first(self):
        rules = [rule("s", "a", lit("x")), rule("s", "b", ("class", "xy")), rule("s", "c", ("run", "xyz"))]
        grammar = ("grammar", "s", rules)

        def tops(filters, text):
            return [index for index, _ in forest(grammar, filters, text).get(("s", 0, len(text), ()), [])]
        self.assertEqual(tops([], "x"), [0, 1, 2])
        self.assertEqual(tops([("first", 0, 1)], "x"), [0, 2])
        self.assertEqual(tops([("first", 0, 1)], "y"), [1, 2])
        self.assertEqual(tops([("first", 2, 1), ("first", 2, 0)], "x"), [2])
        # All look at what is there before anything is left out.
        self.assertEqual(tops([("first", 0, 1), ("first", 1, 2)], "x"), [0])
        self.assertEqual(tops([("first", 0, 1), ("first", 1, 2)], "y"), [1])
        self.assertEqual(tops([("first", 0, 1), ("first", 1, 0)], "x"), [2])
        self.assertEqual(tops([("first", 0, 1), ("first", 1, 2), ("first", 2, 0)], "x"), [])
        self.assertEqual(tops([("first", 0, 1), ("first", 0, 1)], "x"), [0, 2])

    def test_first_needs_a_tree_that_the_filters_leave(self):
        rules = [rule("s", "top", nt("p"), lit(";")), rule("p", "strong", nt("q")), rule("p", "weak", lit("x")),
                 rule("q", "only", ("class", "xy"))]
        grammar = ("grammar", "s", rules)
        first = ("first", 1, 2)
        self.assertEqual(parse(grammar, [first], "x;"), node(0, node(1, node(3, "x")), ";"))
        for other in [("bar", "q", ["x"]), ("stop", "q", ";"), ("under", 1, 0, 3)]:
            self.assertEqual(parse(grammar, [first, other], "x;"), node(0, node(2, "x"), ";"))
        # Where "under" does not allow the rule, it leaves nothing out.
        self.assertEqual(parse(grammar, [first, ("under", 0, 0, 1)], "x;"), node(0, node(2, "x"), ";"))

    def test_only_places_in_trees_are_told(self):
        rules = [rule("s", "one", nt("a"), lit("y")), rule("s", "two", nt("b"), nt("b")), rule("a", "a0", lit("x")),
                 rule("b", "b0", ("class", "xy"))]
        grammar = ("grammar", "s", rules)
        self.assertEqual(forest(grammar, [("first", 0, 1)], "xy"),
                         {("s", 0, 2, ()): [(0, [0, 1, 2])], ("a", 0, 1, ()): [(2, [0, 1])]})


class DefinitionTest(unittest.TestCase):
    """Grammars, filters and texts by chance, against the definition word by word."""

    def test_forests_and_trees(self):
        chance = random.Random(3)
        for _ in range(400):
            grammar = some_grammar(chance)
            filters = some_filters(chance, grammar)
            for _ in range(3):
                text = some_text(chance, 5)
                plain = PlainForest(grammar, filters, text)
                trees = plain.all_of(plain.root)
                told = (grammar, filters, text)
                self.assertEqual(forest(grammar, filters, text), plain.forest(), told)
                self.assertEqual(count(grammar, filters, text), len(trees), told)
                for number in range(min(len(trees), 20)):
                    self.assertEqual(tree(grammar, filters, text, number), trees[number], told)
                if not trees:
                    self.assertRaises(TreeError, parse, grammar, filters, text)

    def test_filters_of_single_nodes(self):
        chance = random.Random(4)
        for _ in range(300):
            grammar = some_grammar(chance)
            filters = [sieve for sieve in some_filters(chance, grammar) if sieve[0] != "first"]
            text = some_text(chance, 5)
            plain = PlainForest(grammar, [], text)
            left = [as_tree(frozen) for frozen in plain.trees.get((grammar[1], 0, len(text)), [])
                    if passes(grammar, filters, text, frozen, 0)]
            found = [tree(grammar, filters, text, number) for number in range(count(grammar, filters, text))]
            self.assertEqual(sorted(map(repr, found)), sorted(map(repr, left)))


class SizeTest(unittest.TestCase):
    """Point 0.3: texts of 6000 characters, trees 100 deep."""

    def test_deep(self):
        rules = [rule("s", "in", lit("("), nt("s"), lit(")")), rule("s", "pair", nt("s"), nt("s")), rule("s", "out", lit("x"))]
        grammar = ("grammar", "s", rules)
        for deep in [100, 130]:
            text = "(" * deep + "x" + ")" * deep
            found = parse(grammar, [], text)
            self.assertEqual((text_of(found), count(grammar, [], text)), (text, 1))

    def test_long(self):
        rules = [rule("s", "all", nt("l"), nt("l"), nt("l")), rule("l", "line", nt("w"), lit(" "), nt("l")),
                 rule("l", "end", nt("w"), lit("\n")), rule("w", "word", ("run", "abcdefghijklmnopqrstuvwxyz"))]
        grammar = ("grammar", "s", rules)
        line = " ".join(["abcdefghijklmnopqrs"] * 100)
        text = (line + "\n") * 3
        self.assertEqual(len(text), 6000)
        self.assertEqual(count(grammar, [], text), 1)
        self.assertEqual(text_of(parse(grammar, [], text)), text)
        self.assertEqual(count(grammar, [], text[:-1] + " "), 0)

    def test_long_by_characters(self):
        rules = [rule("s", "all", nt("b"), nt("b")), rule("b", "b0", nt("c"), nt("c"), nt("c")), rule("c", "c0", *[nt("d")] * 10)]
        rules += [rule("d", "d0", *[nt("w"), lit(" ")] * 10), rule("w", "more", nt("w"), ("class", "xy")), rule("w", "end")]
        grammar = ("grammar", "s", rules)
        text = "xyxyxyxyx " * 600
        self.assertEqual(count(grammar, [], text), 1)
        self.assertEqual(text_of(parse(grammar, [], text)), text)

    def test_operators(self):
        rules = [rule("s", "all", nt("e"), lit(";"), nt("r")), rule("r", "more", nt("s")), rule("r", "none"),
                 rule("e", "add", nt("e"), lit("+"), nt("e")), rule("e", "mul", nt("e"), lit("*"), nt("e")),
                 rule("e", "in", lit("("), nt("e"), lit(")")), rule("e", "number", ("run", "0123456789"))]
        filters = [("under", 3, 2, 3), ("under", 4, 0, 3), ("under", 4, 2, 3), ("under", 4, 2, 4)]
        text = "1+2*3+(4+5)*6*7;" * 30
        self.assertEqual(count(("grammar", "s", rules), filters, text), 1)
        self.assertGreater(count(("grammar", "s", rules), [], text), 10 ** 40)


class SharingTest(unittest.TestCase):
    def test_arguments_stay_and_results_are_new(self):
        filters = [("bar", "e", ["2"]), ("under", 0, 2, 0), ("first", 0, 1), ("stop", "e", "x")]
        grammar = copy.deepcopy(SUM)
        given = copy.deepcopy(filters)
        for function in [forest, count, parse]:
            found = function(grammar, filters, "1+1+1")
            before = copy.deepcopy(found)
            self.assertEqual((grammar, filters), (SUM, given))
            if isinstance(found, dict):
                for alternatives in found.values():
                    for _, positions in alternatives:
                        positions.append(0)
                    alternatives.clear()
                found.clear()
            if isinstance(found, tuple):
                found[2].clear()
            self.assertEqual(function(grammar, filters, "1+1+1"), before)
        self.assertIsNone(check_filters(grammar, filters))
        self.assertEqual((grammar, filters), (SUM, given))


if __name__ == "__main__":
    unittest.main()
