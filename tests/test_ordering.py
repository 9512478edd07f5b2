"""Attributes of all trees: points 15.1 and 15.2."""

import copy
import random
import unittest

from attributed import some_language, some_tree
from scribeself.equations import check
from scribeself.errors import CycleError
from scribeself.ordering import check_order, orders
from scribeself.solving import solve
from scribeself.values import parts_of
from shapes import lit, nt, rule


def of(name, *parts):
    return ("call", name, list(parts))


def own(attribute):
    return ("own", attribute)


def kid(index, attribute):
    return ("kid", index, attribute)


def plain_orders(grammar, attributes):
    """The pairs of all names, and for each rule the pairs of places of which one may need the other, by tables."""
    pairs = {}
    while True:
        tables = []
        more = {name: set(found) for name, found in pairs.items()}
        for at, (_, left, _, symbols) in enumerate(grammar[2]):
            table = {(target, part) for _, index, target, expression in attributes[3] if index == at
                     for part in parts_of(expression) if part[0] in ("own", "kid")}
            for k, (kind, word) in enumerate(symbols):
                if kind == "nt":
                    table |= {(kid(k, upper), kid(k, lower)) for upper, lower in pairs.get(word, ()) if upper != lower}
            places = {place for pair in table for place in pair}
            for middle in places:
                table |= {(one, two) for one in places for two in places if (one, middle) in table and (middle, two) in table}
            tables.append(table)
            found = {(one[1], two[1]) for one, two in table if one[0] == two[0] == "own"}
            if found:
                more.setdefault(left, set()).update(found)
        if more == pairs:
            return {name: sorted(found) for name, found in pairs.items()}, tables
        pairs = more


class OrdersTest(unittest.TestCase):
    def test_no_pairs(self):
        grammar = ("grammar", "s", [rule("s", "leaf", lit("x")), rule("s", "up", nt("n")), rule("n", "end", lit("y"))])
        attributes = ("attributes", [("s", "out", "once"), ("n", "size", "once")], [],
                      [("eq", 0, own("out"), ("val", 1)), ("eq", 1, own("out"), kid(0, "size")), ("eq", 2, own("size"), ("text",))])
        check(grammar, attributes)
        self.assertEqual(orders(grammar, attributes), {})
        self.assertIsNone(check_order(grammar, attributes))
        self.assertEqual(orders(grammar, ("attributes", [], [], [])), {})
        self.assertIsNone(check_order(grammar, ("attributes", [], [], [])))

    def test_pairs_from_kids(self):
        rules = [rule("s", "top", nt("a"), nt("b")), rule("a", "wrap", lit("("), nt("b")), rule("b", "more", nt("b"), lit("x")),
                 rule("b", "end", lit("y")), rule("a", "none")]
        below = [("s", "out", "once"), ("a", "up", "once"), ("b", "up", "once")]
        above = [("a", "in", "once"), ("a", "other", "once"), ("b", "in", "once")]
        equations = [("eq", 0, own("out"), kid(0, "up")), ("eq", 0, kid(0, "in"), ("val", 1)), ("eq", 0, kid(0, "other"), ("val", 1)),
                     ("eq", 0, kid(1, "in"), kid(0, "up")), ("eq", 1, own("up"), of("list", kid(1, "up"))), ("eq", 1, kid(1, "in"), own("other")),
                     ("eq", 2, own("up"), kid(0, "up")), ("eq", 2, kid(0, "in"), own("in")), ("eq", 3, own("up"), own("in")),
                     ("eq", 4, own("up"), ("if", ("val", 1), ("val", 0), own("in")))]
        grammar, attributes = ("grammar", "s", rules), ("attributes", below, above, equations)
        check(grammar, attributes)
        self.assertEqual(orders(grammar, attributes), {"a": [("up", "in"), ("up", "other")], "b": [("up", "in")]})
        self.assertIsNone(check_order(grammar, attributes))
        # Now what is above the first kid needs what it tells.
        wrong = equations[:1] + [("eq", 0, kid(0, "in"), kid(1, "up"))] + equations[2:]
        self.assertEqual(orders(grammar, ("attributes", below, above, wrong)), orders(grammar, attributes))
        with self.assertRaises(CycleError) as caught:
            check_order(grammar, ("attributes", below, above, wrong))
        self.assertEqual(caught.exception.cycle, (0, kid(0, "in")))

    def test_needs_within_a_rule(self):
        grammar = ("grammar", "s", [rule("s", "leaf", lit("x"))])
        below = [("s", name, "once") for name in "abc"]
        equations = [("eq", 0, own("a"), own("b")), ("eq", 0, own("b"), own("c")), ("eq", 0, own("c"), ("val", 1))]
        self.assertEqual(orders(grammar, ("attributes", below, [], equations)), {"s": [("a", "b"), ("a", "c"), ("b", "c")]})
        wrong = equations[:2] + [("eq", 0, own("c"), own("b"))]
        self.assertEqual(orders(grammar, ("attributes", below, [], wrong)),
                         {"s": [("a", "b"), ("a", "c"), ("b", "b"), ("b", "c"), ("c", "b"), ("c", "c")]})
        with self.assertRaises(CycleError) as caught:
            check_order(grammar, ("attributes", below, [], wrong))
        self.assertEqual(caught.exception.cycle, (0, own("b")))

    def test_the_first_rule_and_the_least_target(self):
        rules = [rule("s", "fine", lit("x")), rule("s", "top", nt("n"), nt("n")), rule("n", "leaf", lit("y")), rule("n", "bad", lit("z"))]
        below = [("s", "a", "most"), ("s", "b", "all"), ("n", "up", "once")]
        above = [("n", "in", "once")]
        equations = [("eq", 0, own("a"), ("val", 1)), ("eq", 0, own("b"), of("list")), ("eq", 1, own("b"), own("b")), ("eq", 1, own("a"), own("a")),
                     ("eq", 1, kid(0, "in"), kid(1, "up")), ("eq", 1, kid(1, "in"), kid(0, "up")), ("eq", 2, own("up"), own("in")),
                     ("eq", 3, own("up"), own("up"))]

        def told(given):
            with self.assertRaises(CycleError) as caught:
                check_order(("grammar", "s", rules), ("attributes", below, above, given))
            return caught.exception.cycle

        self.assertEqual(told(equations), (1, kid(0, "in")))
        self.assertIsInstance(told(equations), tuple)
        cut = [("eq", 1, kid(0, "in"), ("val", 1)) if target == kid(0, "in") else ("eq", at, target, e) for _, at, target, e in equations]
        self.assertEqual(told(cut), (1, own("a")))
        cut = [("eq", 1, own("a"), ("val", 1)) if (at, target) == (1, own("a")) else ("eq", at, target, e) for _, at, target, e in cut]
        self.assertEqual(told(cut), (1, own("b")))
        cut = [("eq", 1, own("b"), of("list")) if (at, target) == (1, own("b")) else ("eq", at, target, e) for _, at, target, e in cut]
        self.assertEqual(told(cut), (3, own("up")))

    def test_what_is_no_target_is_not_told(self):
        # In the first rule the attribute of the kid needs itself through the kid alone, but no equation there gives it.
        rules = [rule("s", "top", nt("n")), rule("n", "leaf", lit("y"))]
        attributes = ("attributes", [("s", "out", "once"), ("n", "up", "most")], [],
                      [("eq", 0, own("out"), kid(0, "up")), ("eq", 1, own("up"), own("up"))])
        grammar = ("grammar", "s", rules)
        self.assertEqual(orders(grammar, attributes), {"n": [("up", "up")]})
        with self.assertRaises(CycleError) as caught:
            check_order(grammar, attributes)
        self.assertEqual(caught.exception.cycle, (1, own("up")))
        # A circle through the first rule: the attribute below of the kid is on it, too, and less than the target.
        rules = [rule("s", "top", nt("n")), rule("n", "leaf", lit("y"))]
        attributes = ("attributes", [("n", "a", "once")], [("n", "z", "once")], [("eq", 0, kid(0, "z"), kid(0, "a")), ("eq", 1, own("a"), own("z"))])
        with self.assertRaises(CycleError) as caught:
            check_order(("grammar", "s", rules), attributes)
        self.assertEqual(caught.exception.cycle, (0, kid(0, "z")))

    def test_tables_of_attributes_by_chance(self):
        chance = random.Random(15)
        seen = {"fine": 0, "cycle": 0}
        for turn in range(250):
            grammar, attributes = some_language(chance, circular=turn % 2 == 0, often=chance.choice([0.05, 0.1, 0.2, 0.45]))
            pairs, tables = plain_orders(grammar, attributes)
            self.assertEqual(orders(grammar, attributes), pairs)
            faults = [(at, target) for _, at, target, _ in attributes[3] if (target, target) in tables[at]]
            if faults:
                seen["cycle"] += 1
                with self.assertRaises(CycleError) as caught:
                    check_order(grammar, attributes)
                self.assertEqual(caught.exception.cycle, min(faults))
            else:
                seen["fine"] += 1
                self.assertIsNone(check_order(grammar, attributes))
                for _ in range(5):
                    solve(grammar, attributes, some_tree(chance, grammar[2], "s", 3))
        self.assertGreater(min(seen.values()), 30)

    def test_arguments_stay_and_results_are_new(self):
        grammar, attributes = some_language(random.Random(2))
        given = copy.deepcopy((grammar, attributes))
        found = orders(grammar, attributes)
        told = copy.deepcopy(found)
        self.assertNotEqual(told, {})
        for pairs in found.values():
            pairs.clear()
        found.clear()
        self.assertEqual(orders(grammar, attributes), told)
        try:
            check_order(grammar, attributes)
        except CycleError:
            pass
        self.assertEqual((grammar, attributes), given)


if __name__ == "__main__":
    unittest.main()
