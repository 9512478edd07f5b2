"""How descriptions are written: points 29.2 to 29.4."""

import copy
import random
import unittest

from describing import CHARS, FULL, LANGUAGE, plain_text, small_description, some_description
from scribeself.classes import all_characters
from scribeself.descriptions import read
from scribeself.writing import write


def with_rule(*symbols):
    return ("description", ("grammar", "a", [("rule", "a", "one", list(symbols))]), [], ("attributes", [], [], []), [], [], ("machine", 2, 1, 1, 1))


def with_expression(part):
    return ("description", ("grammar", "a", [("rule", "a", "one", [])]), [], ("attributes", [], [], [("eq", 0, ("own", "out"), part)]), [], [], ("machine", 2, 1, 1, 1))


class WriteTest(unittest.TestCase):
    def symbols(self, text, *symbols):
        told = with_rule(*symbols)
        self.assertEqual(write(told), "start a\nrule one a :" + text + "\nmachine 2 1 1 1\n")
        self.assertEqual(read(write(told)), told)

    def expression(self, text, part):
        told = with_expression(part)
        self.assertEqual(write(told), "start a\nrule one a :\neq one out " + text + "\nmachine 2 1 1 1\n")
        self.assertEqual(read(write(told)), told)

    def test_each_line(self):
        self.assertEqual(write(read(FULL)), FULL)
        self.assertEqual(write(read(LANGUAGE)), LANGUAGE)
        empty = ("description", ("grammar", "a", []), [], ("attributes", [], [], []), [], [], ("machine", 0, 1, 2, 3))
        self.assertEqual(write(empty), "start a\nmachine 0 1 2 3\n")

    def test_symbols(self):
        self.symbols("")
        self.symbols(" 'x' [ab] {ab} b", ("lit", "x"), ("class", "ab"), ("run", "ab"), ("nt", "b"))
        self.symbols(" '\\\\\\'\\\"\\]\\}\\n[{'", ("lit", "\\'\"]}\n[{"))
        self.symbols(" [\\n\\\"\\'[\\\\\\]{\\}]", ("class", "\n\"'[\\]{}"))
        self.symbols(" {\\n\\\"\\'[\\\\\\]{\\}}", ("run", "\n\"'[\\]{}"))
        self.symbols(" '' [] {} 'n' '\\\\n'", ("lit", ""), ("class", ""), ("run", ""), ("lit", "n"), ("lit", "\\n"))
        self.symbols(" ' ' '  '", ("lit", " "), ("lit", "  "))

    def test_all_characters(self):
        for text in [all_characters(), all_characters()[::-1]] + list(all_characters()):
            told = with_rule(("lit", text), ("class", text), ("run", text))
            self.assertEqual(read(write(told)), told)
            told = with_expression(("val", text))
            self.assertEqual(read(write(told)), told)

    def test_expressions(self):
        for text, part in [("0", ("val", 0)), ("-999999999", ("val", -999999999)), ("999999999", ("val", 999999999)), ("\"\"", ("val", "")), ("\"a\\\"\\n\"", ("val", "a\"\n")),
                           (".n", ("own", "n")), ("0.n", ("kid", 0, "n")), ("999999999.n", ("kid", 999999999, "n")), ("$", ("text",)), ("$0", ("kidtext", 0)),
                           ("$12", ("kidtext", 12)), ("(? 1 $ .a)", ("if", ("val", 1), ("text",), ("own", "a"))), ("(list)", ("call", "list", [])),
                           ("(add 1 2)", ("call", "add", [("val", 1), ("val", 2)])), ("(!num 1)", ("call", "make num", [("val", 1)])), ("(!a)", ("call", "make a", [])),
                           ("(make 1)", ("call", "make", [("val", 1)])), ("(maker (!make) 1)", ("call", "maker", [("call", "make make", []), ("val", 1)]))]:
            self.expression(text, part)

    def test_deep_expressions(self):
        part = ("val", 1)
        for k in range(100):
            part = [("call", "a", [("text",), part]), ("if", part, ("text",), ("val", k)), ("call", "make b", [part])][k % 3]
        told = with_expression(part)
        self.assertEqual(write(told), plain_text(told))
        self.assertEqual(write(read(write(told))), write(told))

    def test_patterns(self):
        told = small_description(rewriting=[(("term", "f", [("hole", "x"), -3, "a\\", ("term", "g", [])]), 7), ("a", ("hole", "b1"))],
                                 patterns=[(0, 5, []), (12, ("term", "num", [("hole", "n")]), [("term", "li", [("hole", "out"), 5]), ("term", "op", ["add", ("hole", "a")])])])
        self.assertEqual(write(told).split("\n")[-6:], ["rewrite (f ?x -3 \"a\\\\\" (g)) 7", "rewrite \"a\" ?b1", "cover 0 5 :", "cover 12 (num ?n) : (li ?out 5) (op \"add\" ?a)",
                                                        "machine 2 1 1 1", ""])
        self.assertEqual(read(write(told)), told)

    def test_descriptions_by_chance(self):
        chance = random.Random(294)
        for _ in range(400):
            told = some_description(chance)
            kept = copy.deepcopy(told)
            text = write(told)
            self.assertEqual(text, plain_text(told))
            self.assertEqual(read(text), told)
            self.assertEqual(told, kept)
            self.assertEqual([char for char in text if char not in CHARS + "\n" + all_characters()], [])


if __name__ == "__main__":
    unittest.main()
