"""The values of attributes: points 13.1 to 13.5."""

import copy
import random
import unittest

from attributed import Plain, some_language, some_tree
from scribeself.equations import check
from scribeself.errors import CycleError, EquationError, ValueFault
from scribeself.solving import solve
from shapes import lit, node, nt, rule


def of(name, *parts):
    return ("call", name, list(parts))


def own(attribute):
    return ("own", attribute)


def kid(index, attribute):
    return ("kid", index, attribute)


# One node with the attributes of a single name.
ONE = ("grammar", "s", [rule("s", "leaf", lit("x"))])
LEAF = node(0, "x")


def of_one(**given):
    """Attributes of the one rule: for each a pair of its kind and its expression."""
    below = [("s", name, kind) for name, (kind, _) in given.items()]
    attributes = ("attributes", below, [], [("eq", 0, own(name), expression) for name, (_, expression) in given.items()])
    check(ONE, attributes)
    return attributes


def solved(**given):
    """The values of the attributes of the one rule."""
    return {name: value for (_, name), value in solve(ONE, of_one(**given), LEAF).items()}


class SolveTest(unittest.TestCase):
    def cycle(self, members, **given):
        with self.assertRaises(CycleError) as caught:
            solved(**given)
        self.assertEqual(caught.exception.cycle, [((), name) for name in members])

    def wrong(self, **given):
        self.assertRaises(EquationError, solved, **given)

    def test_example(self):
        rules = [rule("n", "more", lit("1"), nt("n")), rule("n", "none")]
        one = ("eq", 0, own("size"), of("add", ("val", 1), kid(1, "size")))
        attributes = ("attributes", [("n", "size", "once")], [], [one, ("eq", 1, own("size"), ("val", 0))])
        tree = node(0, "1", node(0, "1", node(1)))
        self.assertEqual(solve(("grammar", "n", rules), attributes, tree), {((), "size"): 2, ((1,), "size"): 1, ((1, 1), "size"): 0})

    def test_below_and_above(self):
        rules = [rule("s", "top", lit("<"), nt("n"), nt("n")), rule("n", "more", lit("1"), nt("n")), rule("n", "none")]
        below = [("s", "out", "once"), ("n", "end", "once")]
        above = [("n", "from", "once")]
        equations = [("eq", 0, own("out"), of("list", kid(1, "end"), kid(2, "end"), ("text",), ("kidtext", 1), ("kidtext", 0))),
                     ("eq", 0, kid(1, "from"), ("val", 5)), ("eq", 0, kid(2, "from"), kid(1, "end")),
                     ("eq", 1, kid(1, "from"), of("add", own("from"), of("len", ("text",)))), ("eq", 1, own("end"), kid(1, "end")),
                     ("eq", 2, own("end"), own("from"))]
        grammar, attributes = ("grammar", "s", rules), ("attributes", below, above, equations)
        check(grammar, attributes)
        tree = node(0, "<", node(1, "1", node(1, "1", node(2))), node(1, "1", node(2)))
        known = solve(grammar, attributes, tree)
        self.assertEqual(known, {((), "out"): [8, 9, "<111", "11", "<"], ((1,), "from"): 5, ((1, 1), "from"): 7,
                                 ((1, 1, 1), "from"): 8, ((1, 1, 1), "end"): 8, ((1, 1), "end"): 8, ((1,), "end"): 8,
                                 ((2,), "from"): 8, ((2, 1), "from"): 9, ((2, 1), "end"): 9, ((2,), "end"): 9})

    def test_the_texts_are_those_of_the_node_of_the_rule(self):
        rules = [rule("s", "top", lit("<"), nt("n")), rule("n", "leaf", lit("x"))]
        attributes = ("attributes", [("n", "mine", "once")], [("n", "theirs", "once")],
                      [("eq", 0, kid(1, "theirs"), of("list", ("text",), ("kidtext", 1))), ("eq", 1, own("mine"), ("text",))])
        self.assertEqual(solve(("grammar", "s", rules), attributes, node(0, "<", node(1, "x"))),
                         {((1,), "theirs"): ["<x", "x"], ((1,), "mine"): "x"})

    def test_no_attributes(self):
        self.assertEqual(solve(ONE, ("attributes", [], [], []), LEAF), {})

    def test_cycles(self):
        self.cycle("a", a=("once", own("a")))
        self.cycle("a", a=("once", of("add", own("b"), own("a"))), b=("once", ("val", 1)))
        self.cycle("ab", b=("once", own("a")), a=("once", own("b")))
        self.cycle("abc", c=("most", own("a")), b=("once", own("c")), a=("most", own("b")), d=("once", own("c")))
        self.cycle("ab", b=("all", own("a")), a=("once", own("b")))

    def test_parts_that_are_not_evaluated_count(self):
        self.cycle("a", a=("once", ("if", ("val", 1), ("val", 2), own("a"))))
        self.cycle("a", a=("once", ("if", ("val", 0), own("a"), ("val", 2))))
        self.cycle("ab", a=("once", ("if", ("val", 0), of("list", of("f", own("b"))), ("val", 2))), b=("once", own("a")))

    def test_cycles_through_a_tree(self):
        rules = [rule("s", "top", nt("n"), nt("n")), rule("n", "leaf", lit("x"))]
        grammar = ("grammar", "s", rules)
        equations = [("eq", 0, kid(0, "in"), kid(1, "out")), ("eq", 0, kid(1, "in"), kid(0, "out")), ("eq", 1, own("out"), own("in"))]
        tree = node(0, node(1, "x"), node(1, "x"))
        for out, told in [("once", None), ("most", {((0,), "in"): 0, ((0,), "out"): 0, ((1,), "in"): 0, ((1,), "out"): 0})]:
            attributes = ("attributes", [("n", "out", out)], [("n", "in", "most")], equations)
            if told is None:
                with self.assertRaises(CycleError) as caught:
                    solve(grammar, attributes, tree)
                self.assertEqual(caught.exception.cycle, [((0,), "in"), ((0,), "out"), ((1,), "in"), ((1,), "out")])
            else:
                self.assertEqual(solve(grammar, attributes, tree), told)

    def test_rounds_of_most(self):
        self.assertEqual(solved(a=("most", own("a"))), {"a": 0})
        self.assertEqual(solved(a=("most", of("add", own("a"), ("val", 1)))), {"a": 1000})
        self.assertEqual(solved(a=("most", of("add", own("b"), ("val", 7))), b=("most", ("if", of("less", own("a"), ("val", 50)), own("a"), ("val", 50)))),
                         {"a": 57, "b": 50})
        self.assertEqual(solved(a=("most", ("if", of("less", own("a"), ("val", 3)), of("add", own("a"), ("val", 1)), own("a")))), {"a": 3})

    def test_rounds_go_on_until_none_changes(self):
        # One of the two changes in the first rounds only, the other one only later, whatever their order is.
        for one, two in ["ab", "ba"]:
            early = ("most", ("if", of("less", own(one), ("val", 9)), of("add", own(one), of("add", ("val", 1), of("mul", own(two), ("val", 0)))), own(one)))
            self.assertEqual(solved(**{one: early, two: ("most", of("less", ("val", 8), own(one)))}), {one: 9, two: 1})

    def test_alone(self):
        self.assertEqual(solved(a=("most", ("val", 7)), b=("most", ("val", 1000)), c=("most", ("val", 1001)), d=("most", ("val", 0))),
                         {"a": 7, "b": 1000, "c": 1000, "d": 0})
        self.assertEqual(solved(a=("once", ("val", 1001)), b=("once", ("val", -1)), c=("once", ("val", "x"))), {"a": 1001, "b": -1, "c": "x"})
        self.assertEqual(solved(a=("all", of("list", ("val", "b"), ("val", 2), ("val", "a"), ("val", -1), ("val", 2), ("val", "b"), ("val", 10)))),
                         {"a": [-1, 2, 10, "a", "b"]})
        self.assertEqual(solved(a=("once", of("list", ("val", "b"), ("val", 2), ("val", 2)))), {"a": ["b", 2, 2]})
        self.assertEqual(solved(a=("all", of("list"))), {"a": []})

    def test_rounds_of_all(self):
        self.assertEqual(solved(a=("all", of("join", own("b"), of("list", ("val", "x")))), b=("all", of("join", of("list", ("val", 3)), own("a")))),
                         {"a": [3, "x"], "b": [3, "x"]})
        self.assertEqual(solved(a=("all", own("a"))), {"a": []})
        counted = of("join", own("a"), of("list", of("len", own("a"))))
        self.wrong(a=("all", counted))
        few = ("if", of("less", of("len", own("a")), ("val", 200)), counted, own("a"))
        self.assertEqual(solved(a=("all", few)), {"a": list(range(200))})
        self.wrong(a=("all", ("if", of("less", of("len", own("a")), ("val", 201)), counted, own("a"))))

    def test_a_group_of_both_kinds(self):
        self.assertEqual(solved(a=("most", of("len", own("b"))), b=("all", ("if", of("less", own("a"), ("val", 1)), of("list", ("val", 4)), of("list", ("val", 4), ("val", "y"))))),
                         {"a": 2, "b": [4, "y"]})

    def test_wrong_values(self):
        for told in [("val", -1), ("val", "x"), of("list"), of("list", ("val", 1)), of("make t")]:
            self.wrong(a=("most", told))
            self.wrong(a=("most", ("if", own("a"), ("val", 1), told)))
        for told in [("val", 0), ("val", ""), of("make list"), of("list", of("list")), of("list", ("val", 1), of("make t"))]:
            self.wrong(a=("all", told))
            self.wrong(a=("all", ("if", of("len", own("a")), own("a"), told)))

    def test_less_than_before(self):
        self.wrong(a=("most", ("if", of("less", own("a"), ("val", 5)), ("val", 9), ("val", 8))))
        self.wrong(a=("most", of("sub", ("val", 5), own("a"))))
        self.assertEqual(solved(a=("most", ("if", of("less", own("a"), ("val", 5)), ("val", 2000), ("val", 1500)))), {"a": 1000})
        self.wrong(a=("all", ("if", of("len", own("a")), of("list", ("val", 1)), of("list", ("val", 1), ("val", "1")))))
        self.wrong(a=("all", of("list", of("len", own("a")))))

    def test_items(self):
        many = [("val", k) for k in range(200)]
        self.assertEqual(solved(a=("all", of("list", *many, ("val", 7))))["a"], list(range(200)))
        self.wrong(a=("all", of("list", *many, ("val", "x"))))
        self.assertEqual(len(solved(a=("once", of("list", *many, ("val", "x"))))["a"]), 201)
        self.assertEqual(solved(a=("all", of("list", ("val", "1"), ("val", 1), ("val", "10"), ("val", "9"))))["a"], [1, "1", "10", "9"])

    def test_faults(self):
        for kind in ["once", "most", "all"]:
            self.assertRaises(ValueFault, solved, a=(kind, of("add", ("val", 1), ("val", "x"))))
            self.assertRaises(ValueFault, solved, a=(kind, of("none")))
        self.assertRaises(ValueFault, solved, a=("most", ("if", own("a"), of("tail", ("val", "")), ("val", 1))))
        self.assertEqual(solved(a=("once", ("if", ("val", 1), ("val", 1), of("none")))), {"a": 1})

    def test_plain_values_of_trees_by_chance(self):
        chance = random.Random(13)
        seen = {"cycle": 0, "rounds": 0}
        for turn in range(400):
            grammar, attributes = some_language(chance, circular=turn % 4 != 0)
            tree = some_tree(chance, grammar[2], "s", 3)
            plain = Plain(grammar, attributes, tree)
            cycles = plain.bad_cycles()
            if cycles:
                seen["cycle"] += 1
                with self.assertRaises(CycleError) as caught:
                    solve(grammar, attributes, tree)
                self.assertIn(caught.exception.cycle, cycles)
            else:
                seen["rounds"] += any(plain.circular(group) for group in plain.groups())
                known = solve(grammar, attributes, tree)
                self.assertEqual(known, plain.values())
                for value in known.values():
                    self.assertNotIsInstance(value, bool)
        self.assertGreater(min(seen.values()), 40)

    def test_deep_trees(self):
        rules = [rule("s", "more", lit("("), nt("s"), lit(")")), rule("s", "none")]
        below = [("s", "size", "once"), ("s", "most", "most"), ("s", "seen", "all")]
        deeper = of("add", kid(1, "most"), ("if", of("less", kid(1, "most"), ("val", 90)), ("val", 1), ("val", 0)))
        equations = [("eq", 0, own("size"), of("add", of("len", ("text",)), kid(1, "size"))), ("eq", 0, own("most"), deeper),
                     ("eq", 0, own("seen"), of("join", kid(1, "seen"), of("list", own("size")))),
                     ("eq", 1, own("size"), ("val", 0)), ("eq", 1, own("most"), ("val", 0)), ("eq", 1, own("seen"), of("list"))]
        tree = node(1)
        for _ in range(150):
            tree = node(0, "(", tree, ")")
        known = solve(("grammar", "s", rules), ("attributes", below, [], equations), tree)
        self.assertEqual((known[((), "size")], known[((), "most")]), (150 * 151, 90))
        self.assertEqual(known[((), "seen")], [k * (k + 1) for k in range(1, 151)])

    def test_a_long_circle(self):
        rules = [rule("s", "top", nt("n")), rule("n", "more", lit("x"), nt("n")), rule("n", "none")]
        equations = [("eq", 0, kid(0, "down"), of("add", kid(0, "up"), ("val", 1))), ("eq", 1, kid(1, "down"), own("down")),
                     ("eq", 1, own("up"), kid(1, "up")), ("eq", 2, own("up"), own("down"))]
        tree = node(2)
        for _ in range(120):
            tree = node(1, "x", tree)
        known = solve(("grammar", "s", rules), ("attributes", [("n", "up", "most")], [("n", "down", "most")], equations), node(0, tree))
        self.assertEqual(set(known.values()), {1000})
        self.assertEqual(len(known), 242)

    def test_arguments_stay_and_results_are_new(self):
        grammar, attributes = some_language(random.Random(5))
        attributes = of_one(a=("all", of("join", own("a"), of("list", ("val", 2)))), b=("once", of("list", ("text",))))
        given = copy.deepcopy((ONE, attributes, LEAF))
        found = solve(ONE, attributes, LEAF)
        found.clear()
        self.assertEqual(solve(ONE, attributes, LEAF), {((), "a"): [2], ((), "b"): ["x"]})
        self.assertEqual((ONE, attributes, LEAF), given)


if __name__ == "__main__":
    unittest.main()
