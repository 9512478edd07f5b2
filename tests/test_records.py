"""Attributes under edits: points 16.1 to 16.3."""

import copy
import random
import unittest

from attributed import Plain, some_language, some_tree
from scribeself.equations import check
from scribeself.errors import CycleError, EquationError, ValueFault
from scribeself.records import Record, again, recorded
from scribeself.solving import solve
from scribeself.trees import nodes, replaced
from shapes import lit, node, nt, rule


def of(name, *parts):
    return ("call", name, list(parts))


def own(attribute):
    return ("own", attribute)


def kid(index, attribute):
    return ("kid", index, attribute)


# Sums of digits in brackets; "sign" tells of a sum only whether it is 0.
RULES = [rule("s", "pair", lit("("), nt("s"), lit(","), nt("s"), lit(")")), rule("s", "one", ("class", "0123456789"))]
GRAMMAR = ("grammar", "s", RULES)
ATTRIBUTES = ("attributes", [("s", "sum", "once"), ("s", "sign", "once"), ("s", "size", "once"), ("s", "left", "once")], [],
              [("eq", 0, own("sum"), of("add", kid(1, "sum"), kid(3, "sum"))), ("eq", 1, own("sum"), of("number", ("text",))),
               ("eq", 0, own("sign"), of("less", ("val", 0), own("sum"))), ("eq", 1, own("sign"), of("less", ("val", 0), own("sum"))),
               ("eq", 0, own("size"), of("len", ("text",))), ("eq", 1, own("size"), ("val", 1)),
               ("eq", 0, own("left"), of("list", ("kidtext", 1), kid(3, "sign"))), ("eq", 1, own("left"), ("kidtext", 0))])


def digit(n):
    return node(1, str(n))


def pair(one, two):
    return node(0, "(", one, ",", two, ")")


class RecordsTest(unittest.TestCase):
    def setUp(self):
        check(GRAMMAR, ATTRIBUTES)

    def in_groups(self, plain, groups, computed):
        """Computed instances stand as groups, each one ascending and behind the computed ones that it needs."""
        at = 0
        done = []
        left = [tuple(group) for group in groups]
        while left:
            group = [found for found in left if found[0] == computed[at]][0]
            self.assertEqual(tuple(computed[at:at + len(group)]), group)
            left.remove(group)
            done.extend(group)
            at += len(group)
            for one in group:
                for other in left:
                    self.assertNotIn(other[0], plain.reach[one])
        self.assertEqual(len(computed), at)

    def test_a_fresh_record(self):
        tree = pair(digit(1), pair(digit(2), digit(0)))
        record = recorded(GRAMMAR, ATTRIBUTES, tree)
        self.assertIsInstance(record, Record)
        self.assertEqual(record.tree, tree)
        self.assertEqual(record.known, solve(GRAMMAR, ATTRIBUTES, tree))
        self.assertEqual(sorted(record.computed), sorted(record.known))
        plain = Plain(GRAMMAR, ATTRIBUTES, tree)
        self.in_groups(plain, plain.groups(), record.computed)

    def test_what_is_computed(self):
        record = recorded(GRAMMAR, ATTRIBUTES, pair(pair(digit(1), digit(2)), pair(digit(3), digit(4))))
        new = again(record, (1, 3), digit(5))
        at, above = (1, 3), (1,)
        self.assertEqual(new.tree, pair(pair(digit(1), digit(5)), pair(digit(3), digit(4))))
        self.assertEqual(new.known, solve(GRAMMAR, ATTRIBUTES, new.tree))
        # The signs above stay, as do the lists that read other texts; the size reads the text above.
        self.assertEqual(sorted(new.computed), sorted([(at, "sum"), (at, "sign"), (at, "size"), (at, "left"), (above, "sum"), (above, "sign"),
                                                       (above, "size"), ((), "sum"), ((), "sign"), ((), "size"), ((), "left")]))

    def test_equal_values_end_it(self):
        record = recorded(GRAMMAR, ATTRIBUTES, pair(pair(digit(1), digit(2)), digit(3)))
        new = again(record, (1,), digit(3))
        self.assertEqual(new.known, solve(GRAMMAR, ATTRIBUTES, new.tree))
        # The sum at the path is the same, so the sum at the root is not computed, but what reads its text is.
        self.assertEqual(sorted(new.computed), sorted([((1,), name) for name in ["sum", "sign", "size", "left"]] + [((), "size"), ((), "left")]))
        same = again(new, (3,), digit(3))
        self.assertEqual(sorted(same.computed), sorted([((3,), name) for name in ["sum", "sign", "size", "left"]] + [((), "size")]))
        self.assertEqual(same.known, new.known)

    def test_the_root(self):
        record = recorded(GRAMMAR, ATTRIBUTES, pair(digit(1), digit(2)))
        new = again(record, (), digit(7))
        self.assertEqual(new.known, {((), "sum"): 7, ((), "sign"): 1, ((), "size"): 1, ((), "left"): "7"})
        self.assertEqual(sorted(new.computed), sorted(new.known))

    def test_the_old_record_stays(self):
        tree = pair(digit(1), digit(2))
        record = recorded(GRAMMAR, ATTRIBUTES, tree)
        before = copy.deepcopy((record.tree, record.known, record.computed))
        one = again(record, (1,), digit(5))
        two = again(record, (1,), pair(digit(5), digit(6)))
        one.known.clear()
        one.computed.clear()
        self.assertEqual((record.tree, record.known, record.computed), before)
        self.assertEqual(two.known, solve(GRAMMAR, ATTRIBUTES, two.tree))
        self.assertEqual(again(record, (1,), digit(5)).known, solve(GRAMMAR, ATTRIBUTES, pair(digit(5), digit(2))))

    def test_attributes_above_the_path(self):
        rules = [rule("s", "top", nt("n"), nt("n")), rule("n", "leaf", ("class", "xyz")), rule("n", "deep", lit("("), nt("n"))]
        attributes = ("attributes", [("n", "up", "once")], [("n", "in", "once"), ("n", "side", "once")],
                      [("eq", 0, kid(0, "in"), ("kidtext", 1)), ("eq", 0, kid(1, "in"), ("kidtext", 0)), ("eq", 0, kid(0, "side"), ("val", 1)),
                       ("eq", 0, kid(1, "side"), ("val", 2)), ("eq", 1, own("up"), own("in")), ("eq", 2, kid(1, "in"), own("in")),
                       ("eq", 2, kid(1, "side"), ("kidtext", 0)), ("eq", 2, own("up"), kid(1, "up"))])
        grammar = ("grammar", "s", rules)
        check(grammar, attributes)
        record = recorded(grammar, attributes, node(0, node(2, "(", node(1, "x")), node(1, "y")))
        new = again(record, (0, 1), node(1, "z"))
        self.assertEqual(new.known, solve(grammar, attributes, new.tree))
        self.assertEqual(sorted(new.computed), sorted([((0, 1), "in"), ((0, 1), "side"), ((0, 1), "up"), ((1,), "in"), ((1,), "up")]))

    def test_errors(self):
        rules = RULES + [rule("s", "empty"), rule("s", "round", lit("?"))]
        equations = ATTRIBUTES[3] + [("eq", 2, own(name), of("number", ("text",)) if name == "sum" else ("val", 0)) for name in ["sum", "sign", "size", "left"]]
        equations += [("eq", 3, own("sum"), own("sign")), ("eq", 3, own("sign"), own("sum")), ("eq", 3, own("size"), ("val", 0)), ("eq", 3, own("left"), ("val", 0))]
        attributes = ("attributes", ATTRIBUTES[1], [], equations)
        grammar = ("grammar", "s", rules)
        check(grammar, attributes)
        record = recorded(grammar, attributes, pair(digit(1), digit(2)))
        self.assertRaises(ValueFault, again, record, (3,), node(2))
        self.assertRaises(ValueFault, recorded, grammar, attributes, node(2))
        with self.assertRaises(CycleError) as caught:
            again(record, (3,), node(3, "?"))
        self.assertEqual(caught.exception.cycle, [((3,), "sign"), ((3,), "sum")])
        most = ("attributes", [("s", "sum", "most")], [], [("eq", 0, own("sum"), of("sub", kid(1, "sum"), kid(3, "sum"))),
                                                           ("eq", 1, own("sum"), of("number", ("text",)))])
        record = recorded(GRAMMAR, most, pair(digit(3), digit(2)))
        self.assertRaises(EquationError, again, record, (1,), digit(1))
        self.assertEqual(again(record, (1,), digit(9)).known[((), "sum")], 7)

    def test_records_by_chance(self):
        chance = random.Random(16)
        saved = turns = 0
        while turns < 120:
            grammar, attributes = some_language(chance, circular=turns % 3 != 0)
            tree = some_tree(chance, grammar[2], "s", 3)
            try:
                record = recorded(grammar, attributes, tree)
            except CycleError:
                continue
            turns += 1
            for _ in range(6):
                path, index, _, _ = chance.choice(nodes(record.tree))
                other = some_tree(chance, grammar[2], grammar[2][index][1], 2)
                changed = replaced(record.tree, path, other)
                plain = Plain(grammar, attributes, changed)
                if plain.bad_cycles():
                    self.assertRaises(CycleError, again, record, path, other)
                    continue
                before = copy.deepcopy(record.known)
                new = again(record, path, other)
                self.assertEqual((new.tree, new.known), (changed, solve(grammar, attributes, changed)))
                self.in_groups(plain, plain.touched(path, record.known, new.known), new.computed)
                self.assertEqual(record.known, before)
                saved += len(new.known) - len(new.computed)
                record = new
        self.assertGreater(saved, 1000)

    def test_values_that_are_not_promised_are_still_those_of_solve(self):
        # The second attribute gives less for more, so the order of the rounds counts.
        below = [("s", "a", "most"), ("s", "b", "most"), ("s", "c", "most")]
        equations = []
        for at in range(2):
            equations += [("eq", at, own("a"), ("if", of("less", own("b"), ("val", 1)), own("c"), ("val", 7))),
                          ("eq", at, own("b"), ("if", own("c"), ("val", 3), own("a"))),
                          ("eq", at, own("c"), ("if", own("a"), own("c"), ("val", 5)))]
        attributes = ("attributes", below, [], equations)
        tree = pair(digit(1), pair(digit(2), digit(3)))
        record = recorded(GRAMMAR, attributes, tree)
        new = again(record, (3, 1), pair(digit(0), digit(0)))
        self.assertEqual(new.known, solve(GRAMMAR, attributes, new.tree))
        self.assertEqual(len({tuple(new.known[(path, name)] for name in "abc") for path, _, _, _ in nodes(new.tree)}), 1)

    def test_a_kept_group_has_the_values_of_a_fresh_solve_in_any_case(self):
        # Two attributes that give less for more: the one that gets its value first decides. What they need is the same.
        rules = [rule("s", "top", nt("n")), rule("n", "wrap", lit("("), nt("m")), rule("m", "told", lit("x")), rule("m", "fixed", lit("y"))]
        below = [("n", "a", "most"), ("n", "b", "most"), ("m", "up", "once")]
        for first, second in ["ab", "ba"]:
            equations = [("eq", 0, kid(0, "in"), ("val", 1)), ("eq", 1, kid(1, "in"), own("in")),
                         ("eq", 1, own(first), ("if", own(second), own(first), of("add", own("in"), ("val", 4)))),
                         ("eq", 1, own(second), ("if", own(first), own(second), of("add", kid(1, "up"), ("val", 2)))),
                         ("eq", 2, own("up"), own("in")), ("eq", 3, own("up"), ("val", 1))]
            grammar, attributes = ("grammar", "s", rules), ("attributes", below, [("n", "in", "once"), ("m", "in", "once")], equations)
            check(grammar, attributes)
            trees = [node(0, node(1, "(", node(2, "x"))), node(0, node(1, "(", node(3, "y")))]
            for old, new in [trees, trees[::-1]]:
                record = again(recorded(grammar, attributes, old), (0, 1), new[2][0][2][1])
                self.assertEqual(sorted(record.computed), [((0, 1), "in"), ((0, 1), "up")])
                self.assertEqual(record.known, solve(grammar, attributes, new))

    def test_arguments_stay(self):
        tree, other = pair(digit(1), digit(2)), pair(digit(5), digit(6))
        given = copy.deepcopy((GRAMMAR, ATTRIBUTES, tree, other))
        attributes = copy.deepcopy(ATTRIBUTES)
        record = recorded(GRAMMAR, attributes, tree)
        again(record, (3,), other)
        self.assertEqual((GRAMMAR, attributes, tree, other), given)
        # The record does not depend on the lists that it was made from.
        for part in attributes[1:]:
            part.clear()
        self.assertEqual(again(record, (3,), other).known, solve(GRAMMAR, ATTRIBUTES, pair(digit(1), other)))

    def test_deep(self):
        tree = digit(1)
        for _ in range(120):
            tree = pair(digit(0), tree)
        record = recorded(GRAMMAR, ATTRIBUTES, tree)
        new = again(record, (3,) * 119 + (1,), digit(4))
        self.assertEqual(new.known[((), "sum")], 5)
        self.assertEqual(new.known, solve(GRAMMAR, ATTRIBUTES, new.tree))


if __name__ == "__main__":
    unittest.main()
