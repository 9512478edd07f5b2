"""Values and expressions: points 0.3 and 11.1 to 11.3."""

import copy
import itertools
import unittest

from scribeself.errors import ValueFault
from scribeself.values import call, reads_texts, references, value_of, wrapped

LEAST, MOST = -2147483648, 2147483647
SOME = {"int": 3, "str": "ab", "list": [1, "x"], "term": ("term", "t", [1])}

# The kinds that each function takes.
TAKEN = {"add": ["int int"], "sub": ["int int"], "mul": ["int int"], "less": ["int int", "str str"], "cat": ["str str"],
         "join": ["list list"], "len": ["str", "list"], "at": ["str int", "list int"], "tail": ["str", "list"],
         "number": ["str"], "text": ["int"], "same": [a + " " + b for a in SOME for b in SOME]}


def val(v):
    return ("val", v)


def of(name, *parts):
    return ("call", name, list(parts))


class WrappedTest(unittest.TestCase):
    def test_wrapped(self):
        for n, found in [(0, 0), (-1, -1), (MOST, MOST), (LEAST, LEAST), (MOST + 1, LEAST), (LEAST - 1, MOST), (2 ** 32, 0),
                         (2 ** 32 + 5, 5), (-2 ** 32, 0), (2 ** 31 + 2 ** 70, LEAST), (-2 ** 70 - 1, -1)]:
            self.assertEqual(wrapped(n), found)


class CallTest(unittest.TestCase):
    def fault(self, name, *args):
        self.assertRaises(ValueFault, call, name, list(args))

    def test_numbers(self):
        self.assertEqual(call("add", [2, 3]), 5)
        self.assertEqual(call("add", [MOST, 1]), LEAST)
        self.assertEqual(call("sub", [2, 3]), -1)
        self.assertEqual(call("sub", [LEAST, 1]), MOST)
        self.assertEqual(call("mul", [-4, 3]), -12)
        self.assertEqual(call("mul", [65536, 65536]), 0)
        self.assertEqual(call("mul", [65536, 32768]), LEAST)

    def test_less(self):
        self.assertEqual([call("less", [a, b]) for a, b in [(1, 2), (2, 2), (3, 2), (-1, 0)]], [1, 0, 0, 1])
        self.assertEqual([call("less", [a, b]) for a, b in [("a", "b"), ("b", "b"), ("", "a"), ("a", "B"), ("ab", "a"), ("10", "9")]],
                         [1, 0, 1, 0, 0, 1])
        self.assertIsNot(call("less", [1, 2]), True)
        self.assertIsNot(call("less", [2, 1]), False)

    def test_same(self):
        for one, two, found in [(1, 1, 1), (1, 2, 0), ("a", "a", 1), (1, "1", 0), ([], "", 0), ([1, ["x"]], [1, ["x"]], 1),
                                ([1], [2], 0), (("term", "a", [1]), ("term", "a", [1]), 1), (("term", "a", []), ("term", "b", []), 0),
                                (("term", "a", []), ["term", "a", []], 0), ([], [], 1), (0, "", 0)]:
            self.assertEqual(call("same", [one, two]), found)
            self.assertIsInstance(call("same", [one, two]), int)
            self.assertNotIsInstance(call("same", [one, two]), bool)

    def test_parts(self):
        self.assertEqual(call("cat", ["ab", "c"]), "abc")
        self.assertEqual(call("join", [[1], ["x", []]]), [1, "x", []])
        self.assertEqual([call("len", [whole]) for whole in ["", "abc", [], [1, 2]]], [0, 3, 0, 2])
        self.assertEqual([call("at", ["abc", k]) for k in range(3)], ["a", "b", "c"])
        self.assertEqual(call("at", [[7, [8]], 1]), [8])
        self.assertEqual(call("tail", ["abc"]), "bc")
        self.assertEqual(call("tail", ["a"]), "")
        self.assertEqual(call("tail", [[1, 2]]), [2])
        for index in [-1, 3, MOST]:
            self.fault("at", "abc", index)
            self.fault("at", [1, 2, 3], index)
        self.fault("at", "", 0)
        self.fault("tail", "")
        self.fault("tail", [])

    def test_number_and_text(self):
        self.assertEqual([call("number", [text]) for text in ["0", "7", "007", "999999999"]], [0, 7, 7, 999999999])
        for text in ["", "1234567890", "-1", "+1", " 1", "1 ", "1_0", "a", "0x1", "1\n", "\u0661"]:
            self.fault("number", text)
        self.assertEqual([call("text", [n]) for n in [0, 12, -5, LEAST]], ["0", "12", "-5", "-2147483648"])

    def test_list_and_make(self):
        self.assertEqual(call("list", []), [])
        self.assertEqual(call("list", [1, "x", [2]]), [1, "x", [2]])
        self.assertEqual(call("make add", [1, 2]), ("term", "add", [1, 2]))
        self.assertEqual(call("make ", []), ("term", "", []))
        self.assertEqual(call("make a b", [[]]), ("term", "a b", [[]]))
        self.assertEqual(call("make  x", []), ("term", " x", []))

    def test_other_names(self):
        for name in ["", "make", "makex", "Add", "div", " add", "add ", "wrapped", "if", "val", "maker x"]:
            for args in [[], [1], [1, 2], ["a", "b"]]:
                self.fault(name, *args)

    def test_all_kinds_and_numbers(self):
        for name, taken in TAKEN.items():
            for many in range(4):
                for kinds in itertools.product(SOME, repeat=many):
                    args = [SOME[kind] for kind in kinds]
                    if name == "at" and many == 2:
                        args[1] = 1 if kinds[1] == "int" else args[1]
                    if name == "number" and kinds == ("str",):
                        args = ["12"]
                    if " ".join(kinds) in taken and kinds:
                        call(name, args)
                    else:
                        self.fault(name, *args)

    def test_arguments_stay_and_results_are_new(self):
        args = [1, ["x"]]
        for name in ["list", "make t", "join"]:
            given = [[1], ["x"]] if name == "join" else args
            before = copy.deepcopy(given)
            found = call(name, given)
            told = copy.deepcopy(found)
            (found[2] if name == "make t" else found).clear()
            self.assertEqual(given, before)
            self.assertEqual(call(name, given), told)


class ReferencesTest(unittest.TestCase):
    def test_references(self):
        self.assertEqual(references(val(1)), [])
        self.assertEqual(references(("text",)), [])
        self.assertEqual(references(("own", "a")), [("own", "a")])
        deep = of("add", ("kid", 1, "x"), ("if", ("own", "b"), ("kid", 0, "x"), of("f", ("kid", 1, "x"), ("own", "a"))), ("own", "b"),
                  ("kidtext", 3), ("kid", 1, "y"))
        self.assertEqual(references(deep), [("kid", 1, "x"), ("own", "b"), ("kid", 0, "x"), ("own", "a"), ("kid", 1, "y")])

    def test_reads_texts(self):
        for part in [val("text"), ("own", "text"), ("kid", 0, "kidtext"), of("text", val(1)), ("if", val(1), val(2), val(3))]:
            self.assertIs(reads_texts(part), False)
        for part in [("text",), ("kidtext", 0), of("cat", val(""), ("text",)), ("if", val(1), val(2), ("kidtext", 1)),
                     ("if", ("text",), val(2), val(1)), of("f", of("g", ("kidtext", 0)))]:
            self.assertIs(reads_texts(part), True)


class ValueTest(unittest.TestCase):
    def test_example(self):
        self.assertEqual(value_of(of("add", ("kid", 0, "n"), val(2)), {("kid", 0, "n"): 5}, "", []), 7)

    def test_leaves(self):
        known = {("own", "a"): [1], ("kid", 1, "a"): ("term", "t", [])}
        self.assertEqual(value_of(val(-4), {}, "", []), -4)
        self.assertEqual(value_of(val("x"), {}, "", []), "x")
        self.assertEqual(value_of(("own", "a"), known, "", []), [1])
        self.assertEqual(value_of(("kid", 1, "a"), known, "", []), ("term", "t", []))
        self.assertEqual(value_of(("text",), {}, "own", ["k0", "k1"]), "own")
        self.assertEqual(value_of(("kidtext", 1), {}, "own", ["k0", "k1"]), "k1")

    def test_calls(self):
        self.assertEqual(value_of(of("sub", of("mul", val(2), val(5)), of("len", ("text",))), {}, "abc", []), 7)
        self.assertEqual(value_of(of("list", val(1), of("list"), of("list", val("x"), val(2))), {}, "", []), [1, [], ["x", 2]])
        self.assertEqual(value_of(of("make seq", val(1), of("make skip")), {}, "", []), ("term", "seq", [1, ("term", "skip", [])]))
        self.assertEqual(value_of(of("cat", of("cat", val("a"), val("b")), val("c")), {}, "", []), "abc")

    def test_if(self):
        for test, found in [(1, "yes"), (-1, "yes"), (7, "yes"), (0, "no")]:
            self.assertEqual(value_of(("if", val(test), val("yes"), val("no")), {}, "", []), found)
        for test in [val("1"), val(""), of("list"), of("make t")]:
            self.assertRaises(ValueFault, value_of, ("if", test, val(1), val(2)), {}, "", [])

    def test_if_evaluates_one_part_only(self):
        bad = of("tail", val(""))
        self.assertEqual(value_of(("if", val(1), val(2), bad), {}, "", []), 2)
        self.assertEqual(value_of(("if", val(0), bad, val(3)), {}, "", []), 3)
        for wrong in [("if", val(0), val(2), bad), ("if", val(1), bad, val(3)), ("if", bad, val(2), val(3))]:
            self.assertRaises(ValueFault, value_of, wrong, {}, "", [])
        nested = of("add", ("if", val(0), bad, ("if", val(5), val(1), bad)), ("if", val(1), val(10), bad))
        self.assertEqual(value_of(nested, {}, "", []), 11)

    def test_faults(self):
        for wrong in [of("add", val(1), val("x")), of("none"), of("list", of("at", val("a"), val(1))), of("add", val(1))]:
            self.assertRaises(ValueFault, value_of, wrong, {}, "", [])

    def test_deep(self):
        deep = val(0)
        for _ in range(130):
            deep = of("add", val(1), ("if", val(0), val(9), deep))
        self.assertEqual(value_of(deep, {}, "", []), 130)
        self.assertEqual((references(deep), reads_texts(deep)), ([], False))
        lists = of("list")
        for _ in range(130):
            lists = of("list", lists)
        self.assertEqual(value_of(of("same", lists, lists), {}, "", []), 1)

    def test_arguments_stay_and_results_are_new(self):
        expression = of("join", ("own", "a"), of("list", ("kid", 0, "b"), ("own", "a"), ("kidtext", 0)))
        known = {("own", "a"): [1], ("kid", 0, "b"): 2}
        kids = ["k"]
        given = copy.deepcopy((expression, known, kids))
        found = value_of(expression, known, "", kids)
        self.assertEqual(found, [1, 2, [1], "k"])
        found.clear()
        references(expression).clear()
        self.assertEqual((expression, known, kids), given)
        self.assertEqual(value_of(expression, known, "", kids), [1, 2, [1], "k"])
        self.assertEqual(references(expression), [("own", "a"), ("kid", 0, "b")])


if __name__ == "__main__":
    unittest.main()
