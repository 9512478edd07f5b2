"""Descriptions as values: point 29.6."""

import copy
import random
import unittest

from describing import FULL, LANGUAGE, small_description, some_description
from scribeself.converting import as_value, from_value
from scribeself.descriptions import read
from scribeself.errors import DescriptionError


def term(name, *parts):
    return ("term", name, list(parts))


class ConvertingTest(unittest.TestCase):
    def test_example(self):
        text = "start a\nrule one a : 'x'\nbelow once a out\neq one out $\nmachine 2 1 1 1\n"
        told = as_value(read(text))
        self.assertEqual(told[2][1], [("term", "rule", ["one", "a", [("term", "lit", ["x"])]])])
        self.assertEqual(told[2][5], [("term", "eq", ["one", "out", ("term", "text", [])])])

    def test_each_kind_of_part(self):
        rules = [term("rule", "one", "a", [term("lit", "x'y"), term("class", "\"\\]ab"), term("run", "0123456789"), term("nt", "b")]), term("rule", "two", "b", []),
                 term("rule", "three", "a", [term("nt", "a"), term("nt", "b"), term("lit", "x")])]
        filters = [term("first", "one", "three"), term("under", "three", 0, "one"), term("stop", "a", "}\n"), term("bar", "b", ["x", "", "y\n"])]
        choice = term("if", term("own", "out"), term("kid", 3, "kinds"), term("made", "foo", [term("val", 12), term("val", -3), term("kidtext", 1)]))
        equations = [term("eq", "one", "out", term("call", "cat", [term("text"), choice])), term("down", "one", 3, "in", term("val", "a\"b")),
                     term("eq", "two", "kinds", term("call", "list", []))]
        rewriting = [term("rewrite", term("node", "a", [term("hole", "x"), term("leaf", 1), term("leaf", "t")]),
                          term("node", "b", [term("hole", "x"), term("leaf", -1), term("node", "c", [])])), term("rewrite", term("leaf", 5), term("leaf", "five"))]
        covers = [term("cover", 3, term("node", "num", [term("hole", "n")]), [term("node", "li", [term("hole", "out"), term("hole", "n")]),
                                                                              term("node", "mov", [term("hole", "a"), term("hole", "b")])]), term("cover", 0, term("hole", "x"), [])]
        told = term("description", "a", rules, filters, [term("attribute", "once", "a", "out"), term("attribute", "all", "b", "kinds")],
                    [term("attribute", "most", "b", "in")], equations, rewriting, covers, [2, 1, 10, 999999999])
        self.assertEqual(as_value(read(FULL)), told)
        self.assertEqual(from_value(told), read(FULL))

    def test_there_and_back(self):
        for text in [FULL, LANGUAGE]:
            self.assertEqual(from_value(as_value(read(text))), read(text))
        chance = random.Random(296)
        for _ in range(300):
            told = some_description(chance)
            kept = copy.deepcopy(told)
            value = as_value(told)
            self.assertEqual(from_value(value), told)
            self.assertEqual(as_value(from_value(value)), value)
            self.assertEqual(told, kept)

    def test_calls(self):
        for part, value in [(("call", "make a b", []), term("made", "a b", [])), (("call", "make ", []), term("made", "", [])), (("call", "make", []), term("call", "make", [])),
                            (("call", "maker", [("text",)]), term("call", "maker", [term("text")]))]:
            told = small_description(attributes=("attributes", [], [], [("eq", 0, ("own", "out"), part)]))
            self.assertEqual(as_value(told)[2][5], [term("eq", "more", "out", value)])
            self.assertEqual(from_value(as_value(told)), told)

    def missing(self, value):
        with self.assertRaises(DescriptionError) as caught:
            from_value(value)
        self.assertEqual(caught.exception.line, 0)

    def test_missing_labels(self):
        for filters, equations in [([term("first", "two", "more")], []), ([term("first", "more", "two")], []), ([term("under", "two", 0, "more")], []),
                                   ([term("under", "more", 0, "")], []), ([], [term("eq", "two", "out", term("text"))]), ([], [term("down", "a", 0, "out", term("text"))])]:
            value = as_value(small_description())
            value[2][2], value[2][5] = filters, equations
            self.missing(value)
        value = as_value(small_description())
        value[2][1].pop()
        self.missing(value)

    def test_labels_that_several_rules_have(self):
        rules = [("rule", "a", name, []) for name in ["one", "two", "two", "one"]]
        told = small_description(grammar=("grammar", "a", rules), filters=[("first", 3, 2)], attributes=("attributes", [], [], [("eq", 2, ("own", "n"), ("text",))]))
        self.assertEqual(as_value(told)[2][2], [term("first", "one", "two")])
        self.assertEqual(from_value(as_value(told))[2:4], ([("first", 0, 1)], ("attributes", [], [], [("eq", 1, ("own", "n"), ("text",))])))

    def test_deep_parts(self):
        part, pattern = ("val", 1), ("hole", "x")
        for k in range(100):
            part = [("call", "a", [part]), ("if", part, part if k < 9 else ("text",), ("text",))][k % 2]
            pattern = ("term", "t", [pattern])
        told = small_description(attributes=("attributes", [], [], [("eq", 0, ("own", "out"), part)]), rewriting=[(pattern, pattern)])
        self.assertEqual(from_value(as_value(told)), told)

    def test_arguments_stay(self):
        told = read(FULL)
        value = as_value(told)
        kept = copy.deepcopy((told, value))
        from_value(value)
        self.assertEqual((told, value), kept)
        from_value(value)[2].clear()
        self.assertEqual(from_value(value), told)


if __name__ == "__main__":
    unittest.main()
