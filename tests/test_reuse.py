"""Reading anew: points 8.1 to 8.3."""

import copy
import random
import unittest

from oracles import some_filters, some_grammar, some_text
from scribeself.edits import applied
from scribeself.errors import EditError, TreeError
from scribeself.forests import count, tree
from scribeself.reuse import kept, read, read_again
from scribeself.trees import nodes, subtree
from shapes import node

RULES = [("rule", "s", "all", [("nt", "w"), ("nt", "r")]), ("rule", "r", "more", [("lit", " "), ("nt", "w"), ("nt", "r")]),
         ("rule", "r", "none", []), ("rule", "w", "word", [("run", "abc")]), ("rule", "w", "key", [("lit", "abc")])]
GRAMMAR = ("grammar", "s", RULES)
FILTERS = [("first", 4, 3), ("bar", "w", ["bad"]), ("stop", "w", "abc")]


def all_trees_of(reading):
    found = []
    while len(found) < 50:
        try:
            found.append(reading.tree(len(found)))
        except TreeError:
            break
    return found


def some_edit(chance, text):
    at = chance.choice([0, len(text), chance.randint(0, len(text)), chance.randint(0, len(text))])
    return at, min(chance.choice([0, 0, 1, 2, 9 if len(text) > 6 else 1]), len(text) - at), some_text(chance, 2)


def plainly_kept(old, new, edit):
    """The kept nodes, word by word as they are defined."""
    at, removed, text = edit
    rows = []
    for path, _, start, end in nodes(old):
        if end <= at:
            rows.append((path, start, end))
        elif start >= at + removed:
            rows.append((path, start + len(text) - removed, end + len(text) - removed))
    pairs = []
    for path, _, start, end in nodes(new):
        same = [other for other, low, high in rows
                if (low, high) == (start, end) and subtree(old, other) == subtree(new, path)]
        if same and not any(path[:len(above)] == above for _, above in pairs):
            pairs.append((same[0], path))
    return pairs


class ReadTest(unittest.TestCase):
    def test_read(self):
        reading = read(GRAMMAR, FILTERS, "abc ab")
        self.assertEqual((reading.text, reading.made), ("abc ab", 7))
        self.assertEqual(reading.tree(0), node(0, node(4, "abc"), node(1, " ", node(3, "ab"), node(2))))
        for number in [1, 2, 10 ** 9]:
            self.assertRaises(TreeError, reading.tree, number)
        self.assertEqual(read(GRAMMAR, FILTERS, "").made, 1)
        self.assertRaises(TreeError, read(GRAMMAR, FILTERS, "").tree, 0)

    def test_made(self):
        reading = read(GRAMMAR, FILTERS, "abc ab")
        for edit, made in [((0, 0, ""), 7), ((0, 1, ""), 6), ((0, 0, "xy"), 9), ((3, 0, ""), 4), ((3, 2, "a"), 3),
                           ((6, 0, ""), 1), ((6, 0, " a"), 3), ((4, 2, ""), 1), ((1, 5, ""), 1), ((0, 6, ""), 1)]:
            again = read_again(reading, edit)
            self.assertEqual((again.text, again.made), (applied("abc ab", edit), made), edit)

    def test_misfits(self):
        reading = read(GRAMMAR, FILTERS, "abc")
        for edit in [(-1, 0, ""), (0, -1, ""), (4, 0, ""), (2, 2, ""), (0, 4, "")]:
            self.assertRaises(EditError, read_again, reading, edit)
        self.assertEqual(reading.tree(0), node(0, node(4, "abc"), node(2)))

    def test_runs_and_literals_across_the_edit(self):
        reading = read(GRAMMAR, FILTERS, "ab")
        longer = read_again(reading, (2, 0, "c"))
        self.assertEqual(longer.tree(0), node(0, node(4, "abc"), node(2)))
        self.assertEqual(read_again(longer, (3, 0, "a")).tree(0), node(0, node(3, "abca"), node(2)))
        self.assertEqual(read_again(longer, (1, 2, "")).tree(0), node(0, node(3, "a"), node(2)))
        apart = read_again(longer, (1, 1, " "))
        self.assertEqual(apart.tree(0), node(0, node(3, "a"), node(1, " ", node(3, "c"), node(2))))
        self.assertRaises(TreeError, read_again(longer, (1, 1, "x")).tree, 0)
        self.assertEqual(reading.tree(0), node(0, node(3, "ab"), node(2)))

    def test_filters_hold_in_the_new_text(self):
        reading = read(GRAMMAR, [("bar", "w", ["abb"])], "ab")
        self.assertRaises(TreeError, read_again(reading, (1, 0, "b")).tree, 0)
        self.assertEqual(read_again(read_again(reading, (1, 0, "b")), (0, 0, "c")).tree(0), node(0, node(3, "cabb"), node(2)))

    def test_again_and_again(self):
        chance = random.Random(10)
        for _ in range(150):
            grammar = some_grammar(chance)
            filters = some_filters(chance, grammar)
            reading = read(grammar, filters, some_text(chance, 6))
            told = []
            for _ in range(6):
                edit = some_edit(chance, reading.text)
                told.append((reading, all_trees_of(reading)))
                again = read_again(reading, edit)
                self.assertEqual(again.text, applied(reading.text, edit))
                self.assertEqual(again.made, len(again.text) + 1 - edit[0])
                found = all_trees_of(again)
                self.assertEqual(found, all_trees_of(read(grammar, filters, again.text)))
                many = min(count(grammar, filters, again.text), 50)
                self.assertEqual(found, [tree(grammar, filters, again.text, k) for k in range(many)])
                reading = again
            for older, trees in told:
                self.assertEqual(all_trees_of(older), trees)

    def test_long(self):
        rules = [("rule", "s", "all", [("nt", "l")] * 10), ("rule", "l", "line", [("nt", "w"), ("lit", " "), ("nt", "l")]),
                 ("rule", "l", "end", [("nt", "w"), ("lit", "\n")]), ("rule", "w", "word", [("run", "abcdefghi")])]
        grammar = ("grammar", "s", rules)
        text = (" ".join(["abcdefghi"] * 60) + "\n") * 10
        self.assertEqual(len(text), 6000)
        reading = read(grammar, [], text)
        for edit in [(5990, 1, "aa"), (3000, 9, "abc"), (100, 0, "i"), (5984, 1, "")]:
            reading = read_again(reading, edit)
            fresh = read(grammar, [], reading.text)
            self.assertEqual(reading.tree(0), fresh.tree(0))


class KeptTest(unittest.TestCase):
    def test_ahead_and_behind(self):
        old = read(GRAMMAR, FILTERS, "a abc b").tree(0)
        edit = (3, 1, "")
        new = read(GRAMMAR, FILTERS, "a ac b").tree(0)
        self.assertEqual(kept(old, new, edit), [((0,), (0,)), ((1, 2), (1, 2))])

    def test_nothing_changes(self):
        old = read(GRAMMAR, FILTERS, "a b").tree(0)
        self.assertEqual(kept(old, old, (0, 0, "")), [((), ())])
        self.assertEqual(kept(old, old, (3, 0, "")), [((), ())])
        self.assertEqual(kept(old, old, (1, 0, "")), [((0,), (0,)), ((1,), (1,))])
        self.assertEqual(kept(old, old, (0, 1, "a")), [((1,), (1,))])
        self.assertEqual(kept(old, old, (2, 1, "b")), [((0,), (0,)), ((1, 2), (1, 2))])
        self.assertEqual(kept(old, old, (0, 3, "a b")), [((1, 2), (1, 2))])

    def test_the_first_of_equal_nodes(self):
        old = node(0, node(1), node(1), "x", node(1))
        self.assertEqual(kept(old, old, (0, 0, "")), [((), ())])
        new = node(2, node(1), "x", node(1), node(1))
        self.assertEqual(kept(old, new, (0, 0, "")), [((0,), (0,)), ((3,), (2,)), ((3,), (3,))])

    def test_nodes_without_text_at_the_borders(self):
        old = node(0, "a", node(1), "b", node(2), "c")
        new = node(0, "a", node(1), "xy", node(2), "c")
        self.assertEqual(kept(old, new, (1, 1, "xy")), [((1,), (1,)), ((3,), (3,))])
        # At the position of an edit that removes nothing, the node stays ahead of the new text.
        old = node(0, "a", node(1), "b")
        self.assertEqual(kept(old, node(0, "a", node(1), "xb"), (1, 0, "x")), [((1,), (1,))])
        self.assertEqual(kept(old, node(0, "ax", node(1), "b"), (1, 0, "x")), [])

    def test_place_rule_and_text_count(self):
        old = node(0, node(1, "a"), node(1, "a"))
        self.assertEqual(kept(old, node(0, node(1, "a"), node(2, "a")), (2, 0, "")), [((0,), (0,))])
        self.assertEqual(kept(old, node(0, node(1, "a"), node(1, "b")), (1, 1, "b")), [((0,), (0,))])
        self.assertEqual(kept(old, node(0, node(1, "x"), node(1, "a"), node(1, "a")), (0, 0, "x")),
                         [((0,), (1,)), ((1,), (2,))])
        self.assertEqual(kept(node(0, "1", node(1)), node(0, node(1), "1"), (1, 0, "")), [])

    def test_below_no_other(self):
        old = node(0, node(1, node(2, "a"), node(2, "b")), node(2, "c"))
        new = node(0, node(1, node(2, "a"), node(2, "b")), node(2, "d"))
        self.assertEqual(kept(old, new, (2, 1, "d")), [((0,), (0,))])

    def test_by_definition(self):
        chance = random.Random(11)
        seen = 0
        while seen < 200:
            grammar = some_grammar(chance)
            old = read(grammar, [], some_text(chance, 6))
            edit = some_edit(chance, old.text)
            new = read_again(old, edit)
            for one in all_trees_of(old)[:3]:
                for two in all_trees_of(new)[:3]:
                    self.assertEqual(kept(one, two, edit), plainly_kept(one, two, edit), (one, two, edit))
                    seen += 1

    def test_deep(self):
        def tree_of(text):
            made = node(1, text)
            for _ in range(130):
                made = node(0, node(2, "("), made, node(2, ")"))
            return made
        pairs = kept(tree_of("x"), tree_of("yz"), (130, 1, "yz"))
        self.assertEqual(len(pairs), 260)
        self.assertEqual((pairs[0], pairs[-1]), (((0,), (0,)), ((2,), (2,))))


class SharingTest(unittest.TestCase):
    def test_arguments_stay_and_results_are_new(self):
        grammar, filters = copy.deepcopy(GRAMMAR), copy.deepcopy(FILTERS)
        reading = read(grammar, filters, "abc b")
        old = reading.tree(0)
        new = read_again(reading, (4, 1, "a")).tree(0)
        self.assertEqual((grammar, filters), (GRAMMAR, FILTERS))
        given = copy.deepcopy((old, new))
        pairs = kept(old, new, (4, 1, "a"))
        before = list(pairs)
        pairs.clear()
        self.assertEqual(kept(old, new, (4, 1, "a")), before)
        self.assertEqual((old, new), given)

    def test_a_reading_has_nothing_of_the_lists_that_it_was_made_from(self):
        grammar, filters = copy.deepcopy(GRAMMAR), copy.deepcopy(FILTERS)
        reading = read(grammar, filters, "abc b")
        for _, _, _, symbols in grammar[2]:
            symbols.clear()
        grammar[2].clear()
        filters[1][2].clear()
        filters.clear()
        self.assertEqual(reading.tree(0), read(GRAMMAR, FILTERS, "abc b").tree(0))
        again = read_again(reading, (4, 1, "bad"[:2]))
        self.assertEqual(again.tree(0), read(GRAMMAR, FILTERS, "abc ba").tree(0))


if __name__ == "__main__":
    unittest.main()
