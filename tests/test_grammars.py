"""Grammars: points 3.1 to 3.4."""

import copy
import random
import unittest

from oracles import some_grammar
from scribeself.errors import GrammarError
from scribeself.grammars import check, cyclic, firsts, is_name, lefts, nullable, productive, reached
from shapes import lit, nt, rule


class NameTest(unittest.TestCase):
    def test_is_name(self):
        for text in ["a", "z9", "abcdefghijklmnop", "a000000000000000"]:
            self.assertIs(is_name(text), True, text)
        for text in ["", "9a", "A", "aB", "a_b", "a b", "abcdefghijklmnopq", "\u00e4", "a\u0661", "a\n", " a"]:
            self.assertIs(is_name(text), False, text)


class CheckTest(unittest.TestCase):
    def fault(self, rules, start="s"):
        with self.assertRaises(GrammarError) as caught:
            check(("grammar", start, rules))
        return caught.exception.rule, caught.exception.at

    def test_correct(self):
        rules = [rule("s", "one", lit("a\n ~"), ("class", "ab"), ("run", "\n"), nt("later")), rule("later", "two"),
                 rule("unused", "three", nt("unused"), lit("x"))]
        self.assertIsNone(check(("grammar", "s", rules)))
        self.assertIsNone(check(("grammar", "later", rules)))

    def test_name(self):
        self.assertEqual(self.fault([rule("S", "one")]), ("name", 0))
        self.assertEqual(self.fault([rule("s", "one"), rule("s", "")]), ("name", 1))
        self.assertEqual(self.fault([rule("s", "one"), rule("a" * 17, "two")]), ("name", 1))

    def test_label(self):
        self.assertEqual(self.fault([rule("s", "one"), rule("t", "two"), rule("t", "one")]), ("label", 2))

    def test_lit(self):
        for word in ["", "a%", "\t", "\u00e4"]:
            self.assertEqual(self.fault([rule("s", "one"), rule("s", "two", lit("ok"), lit(word))]), ("lit", 1))

    def test_class(self):
        for kind in ["class", "run"]:
            for chars in ["", "ba", "aa", "%", "\t"]:
                self.assertEqual(self.fault([rule("s", "one", (kind, chars))]), ("class", 0))

    def test_nt(self):
        self.assertEqual(self.fault([rule("s", "one"), rule("s", "two", nt("t"))]), ("nt", 1))

    def test_start(self):
        self.assertEqual(self.fault([rule("s", "one")], "t"), ("start", -1))
        self.assertEqual(self.fault([], "t"), ("start", -1))

    def test_cycle(self):
        self.assertEqual(self.fault([rule("s", "one", nt("s"))]), ("cycle", 0))
        self.assertEqual(self.fault([rule("s", "one"), rule("s", "two", nt("s"), nt("s"))]), ("cycle", 0))
        rules = [rule("s", "one", lit("x")), rule("c", "two", nt("b")), rule("b", "three", lit("y")),
                 rule("b", "four", nt("e"), nt("c"), nt("e")), rule("e", "five")]
        self.assertEqual(self.fault(rules), ("cycle", 2))

    def test_no_cycle(self):
        rules = [rule("s", "one", nt("s"), lit("x")), rule("s", "two", nt("s"), nt("t")), rule("t", "three", lit("y"))]
        self.assertIsNone(check(("grammar", "s", rules)))

    def test_which_comes_first(self):
        self.assertEqual(self.fault([rule("s", "one", lit("")), rule("S", "two")]), ("lit", 0))
        self.assertEqual(self.fault([rule("s", "one"), rule("s", "one", lit(""))]), ("label", 1))
        self.assertEqual(self.fault([rule("s", "one"), rule("S", "one", lit(""))]), ("name", 1))
        self.assertEqual(self.fault([rule("s", "one", ("run", ""), lit(""))]), ("class", 0))
        self.assertEqual(self.fault([rule("s", "one", nt("t"), ("class", ""))]), ("nt", 0))
        self.assertEqual(self.fault([rule("s", "one", nt("s"))], "t"), ("start", -1))
        self.assertEqual(self.fault([rule("s", "one", nt("S")), rule("S", "two")]), ("name", 1))


class NamesTest(unittest.TestCase):
    RULES = [rule("s", "s0", nt("e"), nt("b")), rule("b", "b0", lit("bx"), nt("s")), rule("e", "e0"),
             rule("e", "e1", ("class", "pq"), nt("dead")), rule("dead", "d0", nt("dead"), lit("d")),
             rule("aside", "a0", nt("e"), ("run", "kl")), rule("aside", "a1", nt("dead2"), lit("z")),
             rule("dead2", "d1", nt("dead2"), nt("e"), lit("y")), rule("s", "s1", nt("e"), nt("e"))]
    GRAMMAR = ("grammar", "s", RULES)

    def test_lists(self):
        self.assertIsNone(check(self.GRAMMAR))
        self.assertEqual(lefts(self.GRAMMAR), ["aside", "b", "dead", "dead2", "e", "s"])
        self.assertEqual(nullable(self.GRAMMAR), ["e", "s"])
        self.assertEqual(productive(self.GRAMMAR), ["aside", "b", "e", "s"])
        self.assertEqual(reached(self.GRAMMAR), ["b", "dead", "e", "s"])
        self.assertEqual(cyclic(self.GRAMMAR), [])

    def test_firsts(self):
        self.assertEqual(firsts(self.GRAMMAR), {"aside": "kl", "b": "b", "dead": "", "dead2": "", "e": "", "s": "b"})

    def test_firsts_of_left_recursion(self):
        rules = [rule("s", "s0", nt("s"), lit("x")), rule("s", "s1"), rule("s", "s2", ("class", "ab"), lit("c"))]
        self.assertEqual(firsts(("grammar", "s", rules)), {"s": "abx"})

    def test_example(self):
        grammar = ("grammar", "a", [rule("a", "one", nt("b"), lit("x")), rule("b", "two")])
        self.assertEqual(firsts(grammar), {"a": "x", "b": ""})

    def test_cyclic(self):
        rules = [rule("s", "s0", nt("a"), nt("e")), rule("a", "a0", nt("e"), nt("s")), rule("e", "e0"),
                 rule("x", "x0", nt("s")), rule("y", "y0", nt("y"), lit("k")), rule("z", "z0", nt("z"))]
        grammar = ("grammar", "x", rules)
        self.assertEqual(cyclic(grammar), ["a", "s", "z"])
        self.assertEqual(reached(grammar), ["a", "e", "s", "x"])
        self.assertEqual(nullable(grammar), ["e"])
        self.assertEqual(productive(grammar), ["e"])

    def test_both_others_nullable(self):
        rules = [rule("s", "s0", nt("s"), nt("s")), rule("s", "s1"), rule("t", "t0", nt("t"), nt("t"))]
        self.assertEqual(cyclic(("grammar", "s", rules)), ["s"])

    def test_by_texts(self):
        """The names by the short texts that they derive, for grammars whose texts are not long."""
        chance = random.Random(2)
        for _ in range(200):
            grammar = some_grammar(chance)
            texts = short_texts(grammar, 8)
            self.assertEqual(nullable(grammar), sorted(name for name in texts if "" in texts[name]))
            found = firsts(grammar)
            for name in texts:
                begun = {text[0] for text in texts[name] if text}
                self.assertEqual(begun - set(found[name]), set())
                if name in productive(grammar):
                    self.assertEqual("".join(sorted(begun)), found[name])
                else:
                    self.assertEqual((begun, found[name]), (set(), ""))

    def test_arguments_stay(self):
        given = copy.deepcopy(self.GRAMMAR)
        for function in [check, lefts, nullable, productive, reached, cyclic, firsts]:
            found = function(given)
            self.assertEqual(given, self.GRAMMAR)
            if found is not None:
                before = copy.deepcopy(found)
                found.clear()
                self.assertEqual(function(given), before)


def short_texts(grammar, most):
    """All texts of each name up to a length, where a run gives any stretch of its characters."""
    texts = {left: set() for _, left, _, _ in grammar[2]}
    changed = True
    while changed:
        changed = False
        for _, left, _, symbols in grammar[2]:
            parts = {""}
            for kind, word in symbols:
                choices = {"lit": [word], "nt": texts.get(word), "class": list(word)}.get(kind)
                if kind == "run":
                    choices = [char * many for char in word for many in (1, 2)] + [word]
                parts = {part + more for part in parts for more in choices if len(part + more) <= most}
            if parts - texts[left]:
                texts[left] |= parts
                changed = True
    return texts


if __name__ == "__main__":
    unittest.main()
