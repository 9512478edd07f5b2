"""Covers: points 22.1 to 22.5 and 22.8."""

import copy
import random
import unittest

from covering import BASE, PlainCoder, hole, op, plain_cover, some_cover, some_patterns, term
from middle import EDGES, PlainRun, plain_value, some_expression, some_statement
from scribeself.covers import Coder, compiled, cover, cover_cost
from scribeself.errors import CoverError
from scribeself.machines import check_list, observe_list, play
from scribeself.patterns import check_pattern

A, B, C, N, S, OUT = [hole(name) for name in ["a", "b", "c", "n", "s", "out"]]
TWO = (1, term("num", N), [term("li", OUT, N)])
SEVEN = ("num", 7)


def num(n):
    return ("num", n)


def var(slot):
    return ("var", slot)


def plus(one, two):
    return ("add", one, two)


class CoverTest(unittest.TestCase):
    def none(self, patterns, expression):
        self.assertRaises(CoverError, cover, patterns, expression)

    def test_one_pattern_for_each_kind(self):
        self.assertEqual(cover(BASE, SEVEN), (1, (0, [])))
        self.assertEqual(cover(BASE, var(3)), (2, (1, [])))
        self.assertEqual(cover(BASE, ("sub", SEVEN, ("mul", var(1), var(2)))), (7, (3, [(0, []), (4, [(1, []), (1, [])])])))

    def test_no_cover(self):
        self.none([], SEVEN)
        self.none([TWO], var(1))
        self.none([TWO], plus(SEVEN, SEVEN))
        self.none(BASE[1:], plus(var(1), SEVEN))
        self.none(BASE[:2] + [(1, term("add", A, term("num", 1)), [op("add", "out", "a", "a")])], plus(num(1), var(1)))
        self.assertEqual(cover(BASE[1:] + [(5, term("add", A, term("num", 7)), [])], plus(var(1), SEVEN)), (7, (6, [(0, [])])))

    def test_numbers(self):
        patterns = [(1, term("num", 7), []), (1, term("var", 3), [])]
        self.assertEqual([cover(patterns, SEVEN), cover(patterns, var(3))], [(1, (0, [])), (1, (1, []))])
        for other in [num(8), num(-7), num(3), var(7), var(0)]:
            self.none(patterns, other)

    def test_trees_that_are_no_terms(self):
        for tree in [A, 7, "num", hole("n")]:
            self.none([(0, tree, [])], SEVEN)
        self.assertEqual(cover([(0, A, []), TWO], SEVEN), (1, (1, [])))

    def test_least_cost(self):
        big = (1, term("add", A, term("mul", B, C)), [])
        sums = BASE + [big]
        expression = plus(SEVEN, ("mul", num(1), num(2)))
        self.assertEqual(cover(sums, expression), (4, (7, [(0, []), (0, []), (0, [])])))
        for cost, told in [(2, (5, (2, [(0, []), (4, [(0, []), (0, [])])]))), (3, (5, (2, [(0, []), (4, [(0, []), (0, [])])])))]:
            self.assertEqual(cover(BASE + [(cost,) + big[1:]], expression), told)
        # With equal costs the least index is due, wherever it stands.
        self.assertEqual(cover([(2,) + big[1:]] + BASE, expression), (5, (0, [(1, []), (1, []), (1, [])])))
        self.assertEqual(cover([(0, term("num", 1), []), (0, term("num", N), [])], num(1)), (0, (0, [])))
        self.assertEqual(cover([(1, term("num", N), []), (0, term("num", N), []), (0, term("num", 1), [])], num(1)), (0, (1, [])))

    def test_the_least_index_at_the_top_counts_first(self):
        # Both ways cost 3; the one with the less index at the top has the greater one below.
        patterns = [(2, term("add", A, B), []), (1, term("add", term("num", N), A), []), (1, term("num", N), []), (0, term("num", 5), [])]
        self.assertEqual(cover(patterns, plus(num(5), num(6))), (2, (1, [(2, [])])))
        self.assertEqual(cover(patterns, plus(num(5), num(5))), (1, (1, [(3, [])])))
        patterns = [(1, term("add", A, B), [])] + patterns[1:]
        self.assertEqual(cover(patterns, plus(num(5), num(6))), (2, (0, [(3, []), (2, [])])))

    def test_holes_of_one_name(self):
        twice = (1, term("add", A, A), [])
        self.assertEqual(cover(BASE + [twice], plus(var(1), var(1))), (3, (7, [(1, [])])))
        self.assertEqual(cover(BASE + [twice], plus(var(1), var(2)))[1][0], 2)
        deep = ("mul", plus(num(1), var(2)), num(3))
        self.assertEqual(cover(BASE + [twice], plus(deep, copy.deepcopy(deep)))[1][0], 7)
        self.assertEqual(cover(BASE + [twice], plus(deep, ("mul", plus(num(1), var(3)), num(3))))[1][0], 2)
        both = [(1, term("add", term("num", N), term("num", N)), [])]
        self.assertEqual(cover(both, plus(SEVEN, SEVEN)), (1, (0, [])))
        self.none(both, plus(SEVEN, num(8)))
        # A number and a slot can be equal, a number and an expression can not.
        self.assertEqual(cover([(1, term("add", term("num", N), term("var", N)), [])], plus(num(3), var(3))), (1, (0, [])))
        self.none([(1, term("add", term("num", N), term("var", N)), [])], plus(num(3), var(4)))
        self.none([(1, term("add", term("num", N), N), []), TWO], plus(num(3), num(3)))

    def test_the_order_of_the_operands(self):
        tree = term("add", term("sub", B, A), term("mul", C, term("add", B, A)))
        expression = plus(("sub", num(2), num(1)), ("mul", num(3), plus(num(2), num(1))))
        patterns = [(0, term("num", k), []) for k in range(5)] + [(1, tree, [])]
        self.assertEqual(cover(patterns, expression), (1, (5, [(2, []), (1, []), (3, [])])))
        same = plus(("sub", num(2), num(2)), ("mul", num(2), plus(num(2), num(2))))
        self.assertEqual(cover(patterns, same), (1, (5, [(2, []), (2, []), (2, [])])))

    def test_covers_by_chance(self):
        chance = random.Random(22)
        seen = {True: 0, False: 0}
        for _ in range(1500):
            patterns = some_patterns(chance, base=chance.random() < 0.5)
            expression = some_expression(chance, 3, 3)
            told = plain_cover(patterns, expression)
            seen[told is None] += 1
            if told is None:
                self.none(patterns, expression)
            else:
                self.assertEqual(cover(patterns, expression), told)
                self.assertEqual(cover_cost(patterns, expression, told[1]), told[0])
        self.assertGreater(min(seen.values()), 200)

    def test_deep(self):
        expression = num(1)
        for _ in range(120):
            expression = plus(expression, num(1))
        cost, told = cover(BASE, expression)
        self.assertEqual(cost, 241)
        self.assertEqual(cover_cost(BASE, expression, told), 241)
        coder = Coder(BASE)
        self.assertEqual(coder.expression(expression, told), 240)
        self.assertEqual(len(coder.code), 241)


class CostTest(unittest.TestCase):
    def test_right_covers(self):
        expression = plus(SEVEN, var(1))
        patterns = BASE + [(9, term("add", A, term("var", S)), []), (4, term("num", 7), []), (0, term("add", A, A), [])]
        for told, cost in [((2, [(0, []), (1, [])]), 4), ((2, [(8, []), (1, [])]), 7), ((7, [(0, [])]), 10), ((7, [(8, [])]), 13)]:
            self.assertEqual(cover_cost(patterns, expression, told), cost)
        self.assertEqual(cover_cost(patterns, plus(SEVEN, SEVEN), (9, [(0, [])])), 1)
        self.assertEqual(cover_cost(patterns, plus(SEVEN, SEVEN), (9, [(8, [])])), 4)

    def test_wrong_covers(self):
        expression = plus(SEVEN, var(1))
        patterns = BASE + [(9, term("add", A, term("var", S)), []), (0, A, []), (0, term("add", A, A), [])]
        for told in [(0, []), (-1, []), (10, []), (99, [(0, []), (1, [])]), (-8, [(0, []), (1, [])]), (2, []), (2, [(0, [])]), (2, [(0, []), (1, []), (1, [])]), (2, [(1, []), (0, [])]),
                     (2, [(0, []), (0, [])]), (3, [(0, []), (1, [])]), (2, [(0, [(0, [])]), (1, [])]), (2, [(0, []), (1, [(1, [])])]), (7, [(0, []), (1, [])]), (7, []),
                     (7, [(1, [])]), (8, []), (8, [(2, [(0, []), (1, [])])]), (2, [(8, []), (1, [])]), (9, [(0, [])]), (2, [(-7, []), (1, [])]), (2, [(0, []), (55, [])])]:
            self.assertIsNone(cover_cost(patterns, expression, told), told)

    def test_covers_by_chance(self):
        chance = random.Random(222)
        for _ in range(400):
            patterns, expression = some_patterns(chance), some_expression(chance, 3, 3)
            cost, told = some_cover(chance, patterns, expression)
            self.assertEqual(cover_cost(patterns, expression, told), cost)
            self.assertGreaterEqual(cost, cover(patterns, expression)[0])
            self.assertIsNone(cover_cost(patterns, ("less", expression, num(12345)), told))


class CodeTest(unittest.TestCase):
    def test_a_coder_at_the_beginning(self):
        self.assertEqual(Coder(BASE).code, [])
        self.assertEqual(Coder([]).code, [])

    def test_operands_come_first(self):
        coder = Coder(BASE)
        told = cover(BASE, ("sub", SEVEN, var(3)))[1]
        self.assertEqual(coder.expression(("sub", SEVEN, var(3)), told), 2)
        self.assertEqual(coder.code, [("li", 0, 7), ("ld", 1, 3), ("op", "sub", 2, 0, 1)])

    def test_several_expressions(self):
        coder = Coder(BASE)
        found = [coder.expression(part, cover(BASE, part)[1]) for part in [SEVEN, plus(num(1), num(2)), var(0)]]
        self.assertEqual(found, [0, 3, 4])
        self.assertEqual(coder.code, [("li", 0, 7), ("li", 1, 1), ("li", 2, 2), ("op", "add", 3, 1, 2), ("ld", 4, 0)])
        other = Coder(BASE)
        self.assertEqual(other.expression(SEVEN, (0, [])), 0)
        self.assertEqual(other.code, [("li", 0, 7)])

    def test_new_registers(self):
        # The registers come in the order of the first places of their holes in the instructions, not of their names.
        tree = term("mul", term("num", N), term("add", A, term("num", 1)))
        code = [term("li", hole("z"), N), term("li", hole("y"), 1), op("add", "x", "a", "y"), op("mul", "out", "z", "x"), term("mov", hole("z"), OUT),
                term("mov", OUT, hole("z"))]
        check_pattern((1, tree, code))
        coder = Coder(BASE + [(1, tree, code)])
        self.assertEqual(coder.expression(("mul", num(5), plus(var(2), num(1))), (7, [(1, [])])), 4)
        self.assertEqual(coder.code, [("ld", 0, 2), ("li", 1, 5), ("li", 2, 1), ("op", "add", 3, 0, 2), ("op", "mul", 4, 1, 3), ("mov", 1, 4), ("mov", 4, 1)])

    def test_one_operand_twice(self):
        twice = (1, term("add", A, A), [op("add", "out", "a", "a")])
        check_pattern(twice)
        coder = Coder(BASE + [twice])
        self.assertEqual(coder.expression(plus(SEVEN, SEVEN), (7, [(0, [])])), 1)
        self.assertEqual(coder.expression(plus(SEVEN, SEVEN), (2, [(0, []), (0, [])])), 4)
        self.assertEqual(coder.code, [("li", 0, 7), ("op", "add", 1, 0, 0), ("li", 2, 7), ("li", 3, 7), ("op", "add", 4, 2, 3)])

    def test_an_operand_that_is_not_read(self):
        nothing = (1, term("sub", A, A), [term("li", OUT, 0)])
        check_pattern(nothing)
        coder = Coder(BASE + [nothing])
        self.assertEqual(coder.expression(("sub", SEVEN, SEVEN), (7, [(0, [])])), 1)
        self.assertEqual(coder.code, [("li", 0, 7), ("li", 1, 0)])

    def test_numbers_and_slots(self):
        both = (1, term("add", term("var", S), term("num", N)), [term("ld", OUT, S), term("li", hole("t"), N), op("add", "out", "out", "t")])
        check_pattern(both)
        coder = Coder([both])
        self.assertEqual(coder.expression(plus(var(15), num(-9)), (0, [])), 0)
        self.assertEqual(coder.code, [("ld", 0, 15), ("li", 1, -9), ("op", "add", 0, 0, 1)])

    def test_code_by_chance(self):
        chance = random.Random(224)
        for _ in range(500):
            patterns = some_patterns(chance)
            coder, plain = Coder(patterns), PlainCoder(patterns)
            for _ in range(3):
                expression = some_expression(chance, 3, 4)
                _, told = some_cover(chance, patterns, expression)
                self.assertEqual(coder.expression(expression, told), plain.expression(expression, told))
                self.assertEqual(coder.code, plain.code)

    def test_the_value_by_any_cover(self):
        chance = random.Random(228)
        for _ in range(400):
            patterns = some_patterns(chance)
            for pattern in patterns:
                check_pattern(pattern)
            store = [chance.choice(EDGES) for _ in range(16)]
            expression = some_expression(chance, 4, 4)
            coder = Coder(patterns)
            value = coder.expression(expression, some_cover(chance, patterns, expression)[1])
            before = [part for slot in range(16) for part in [("li", 9000, store[slot]), ("st", 9000, slot)]]
            told = before + coder.code + [("show", value)]
            self.assertIsNone(check_list(told, None))
            self.assertEqual(play(told, 9999)[0], [plain_value(expression, store)])


class CompiledTest(unittest.TestCase):
    def test_example(self):
        self.assertEqual(compiled([TWO], ("show", SEVEN)), [("li", 0, 7), ("show", 0), ("halt",)])

    def test_each_kind(self):
        show = ("show", num(1))
        for statement, told in [
                (("skip",), []), (("seq", ("skip",), ("skip",)), []),
                (("set", 3, var(2)), [("ld", 0, 2), ("st", 0, 3)]),
                (("seq", show, ("show", num(2))), [("li", 0, 1), ("show", 0), ("li", 1, 2), ("show", 1)]),
                (("when", num(4), show, ("show", num(2))), [("li", 0, 4), ("jz", 0, 0), ("li", 1, 1), ("show", 1), ("jump", 1), ("label", 0), ("li", 2, 2), ("show", 2),
                                                             ("label", 1)]),
                (("when", num(4), ("skip",), ("skip",)), [("li", 0, 4), ("jz", 0, 0), ("jump", 1), ("label", 0), ("label", 1)]),
                (("loop", num(4), show), [("label", 0), ("li", 0, 4), ("jz", 0, 1), ("li", 1, 1), ("show", 1), ("jump", 0), ("label", 1)])]:
            self.assertEqual(compiled(BASE, statement), told + [("halt",)])

    def test_labels(self):
        inner = ("loop", num(1), ("skip",))
        found = compiled(BASE, ("seq", inner, ("seq", ("when", num(2), ("when", num(3), ("skip",), inner), inner), inner)))
        self.assertEqual([part[-1] for part in found if part[0] in ("label", "jz", "jump")],
                         [0, 1, 0, 1] + [2] + [4] + [5, 4, 6, 7, 6, 7, 5] + [3, 2] + [8, 9, 8, 9] + [3] + [10, 11, 10, 11])
        self.assertEqual([part[1] for part in found if part[0] == "li"], list(range(6)))
        self.assertIsNone(check_list(found, None))

    def test_the_least_covers(self):
        patterns = BASE + [(0, term("add", A, term("num", 1)), [term("li", hole("t"), 1), op("add", "out", "t", "a")])]
        self.assertEqual(compiled(patterns, ("set", 0, plus(var(0), num(1)))),
                         [("ld", 0, 0), ("li", 1, 1), ("op", "add", 2, 1, 0), ("st", 2, 0), ("halt",)])

    def test_no_cover(self):
        for statement in [("show", var(1)), ("seq", ("show", SEVEN), ("set", 0, plus(SEVEN, SEVEN))), ("loop", var(0), ("skip",)),
                          ("when", SEVEN, ("skip",), ("show", var(2))), ("when", num(0), ("show", var(2)), ("skip",))]:
            self.assertRaises(CoverError, compiled, [TWO], statement)
        self.assertEqual(compiled([], ("seq", ("skip",), ("skip",))), [("halt",)])

    def test_statements_by_chance(self):
        chance = random.Random(225)
        for _ in range(400):
            patterns, statement = some_patterns(chance), some_statement(chance, 4)
            found = compiled(patterns, statement)
            plain = PlainCoder(patterns)
            plain.statement(statement, 0)
            self.assertEqual(found, plain.code + [("halt",)])
            self.assertIsNone(check_list(found, None))
            meant = PlainRun(statement, 100)
            ending, shown = observe_list(found, 100000 if meant.ended else 500)
            if meant.ended:
                self.assertEqual((ending, shown), ("halt", meant.shown))
                self.assertEqual(play(found, 100000)[1][:16], meant.store)
            else:
                self.assertEqual(shown, PlainRun(statement, 9999).shown[:len(shown)])

    def test_arguments_stay_and_results_are_new(self):
        patterns = copy.deepcopy(BASE)
        expression = ("sub", SEVEN, ("mul", var(1), SEVEN))
        cost, told = cover(patterns, expression)
        before = copy.deepcopy(told)
        told[1][1][1].clear()
        told[1].clear()
        self.assertEqual(cover(patterns, expression), (cost, before))
        given = copy.deepcopy(before)
        cover_cost(patterns, expression, given)
        coder = Coder(patterns)
        coder.expression(expression, given)
        self.assertEqual(given, before)
        compiled(patterns, ("show", expression)).clear()
        self.assertEqual(compiled(patterns, ("show", expression)), coder.code + [("show", 4), ("halt",)])
        self.assertEqual(patterns, BASE)
        # A coder does not depend on the list that it was made from.
        patterns.clear()
        self.assertEqual(coder.expression(SEVEN, (0, [])), 5)


if __name__ == "__main__":
    unittest.main()
