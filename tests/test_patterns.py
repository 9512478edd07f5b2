"""The judge of patterns: points 22.1, 22.6 and 22.7."""

import copy
import random
import unittest

from covering import BASE, hole, op, straight_code, term
from judging import is_taken, some_judged
from middle import EDGES, NAMES, plain_value
from scribeself.covers import Coder
from scribeself.errors import CoverError
from scribeself.machines import play
from scribeself.patterns import check_pattern

A, B, N, S, OUT, T = [hole(name) for name in ["a", "b", "n", "s", "out", "t"]]
SUM = term("add", A, B)
ADD = op("add", "out", "a", "b")


def num(n):
    return term("num", n)


def var(s):
    return term("var", s)


def li(goal, n):
    return term("li", hole(goal), n)


def ld(goal, s):
    return term("ld", hole(goal), s)


def mov(goal, one):
    return term("mov", hole(goal), hole(one))


def product(many, names="a"):
    """A product of some holes, by names in turn."""
    found = hole(names[0])
    for k in range(1, many):
        found = term("mul", found, hole(names[k % len(names)]))
    return found


def total(many):
    """A sum of some different holes."""
    found = hole("h0")
    for k in range(1, many):
        found = term("add", found, hole("h" + str(k)))
    return found


class PatternsTest(unittest.TestCase):
    def taken(self, tree, *instructions):
        self.assertIsNone(check_pattern((1, tree, list(instructions))))
        self.assertTrue(is_taken((1, tree, list(instructions))))

    def refused(self, tree, *instructions):
        self.assertRaises(CoverError, check_pattern, (1, tree, list(instructions)))
        self.assertFalse(is_taken((1, tree, list(instructions))))

    def straight(self, tree, taken=True):
        (self.taken if taken else self.refused)(tree, *straight_code(tree))

    def test_base(self):
        for pattern in BASE:
            self.assertIsNone(check_pattern(pattern))

    def test_the_cost(self):
        for cost in [0, 1, 10 ** 9]:
            self.assertIsNone(check_pattern((cost, SUM, [ADD])))
        self.assertRaises(CoverError, check_pattern, (-1, SUM, [ADD]))

    def test_the_tree_is_a_term(self):
        for tree in [A, 0, 7, "a", "num"]:
            self.refused(tree, li("out", 7))
            self.refused(tree, term("mov", OUT, A))

    def test_the_shape_of_the_tree(self):
        fine = li("out", 0)
        for tree in [term("zero"), term(""), term("num"), num("x"), num(num(1)), term("num", 1, 2), term("num", N, N), term("var"), var("0"), var(16), var(-1), var(var(1)),
                     term("var", 1, 2), term("add"), term("add", A), term("add", A, B, B), term("add", 1, A), term("add", A, 1), term("add", "a", A),
                     term("add", A, ""), term("div", A, B), term("", A, B), term("set", A, B), term("add", A, term("neg", B)), term("mul", num(1), var(16)),
                     term("less", term("add", A), B), term("hole", A, B), term("term", A, B), term("Add", A, B)]:
            self.refused(tree, fine)
            self.refused(term("sub", tree, tree), fine)
            self.refused(term("mul", num(0), term("add", A, tree)), fine)
        self.taken(term("mul", num(0), term("add", A, B)), fine)

    def test_numbers_and_slots_of_the_tree(self):
        for n in [0, 1, -1, 2147483647, -2147483648]:
            self.taken(num(n), li("out", n))
        for slot in range(16):
            self.taken(var(slot), ld("out", slot))
        self.refused(num(1), li("out", 2))
        self.refused(var(1), ld("out", 2))
        self.refused(var(1), li("out", 1))
        self.refused(num(1), ld("out", 1))

    def test_no_hole_of_the_tree_is_called_out(self):
        self.refused(num(OUT), li("out", OUT))
        self.refused(num(OUT), li("t", OUT))
        self.refused(var(OUT), ld("out", OUT))
        self.refused(term("add", OUT, OUT), op("add", "out", "out", "out"))
        self.refused(term("sub", A, term("sub", A, OUT)))
        self.refused(term("sub", OUT, OUT), li("out", 0))

    def test_each_hole_stands_for_one_kind_of_things(self):
        for tree in [term("add", A, num(A)), term("add", num(A), A), term("add", var(A), A), term("add", num(A), var(A)), term("add", term("mul", var(A), B), num(A))]:
            self.refused(term("mul", num(0), tree), li("out", 0))
            self.refused(tree, *straight_code(tree))
        self.straight(term("add", num(N), num(N)))
        self.straight(term("add", var(S), var(S)))
        self.straight(term("add", A, A))
        self.straight(term("sub", term("mul", A, num(N)), term("less", var(S), num(hole("m")))))

    def test_the_shape_of_the_instructions(self):
        for wrong in [term("li"), term("li", T), term("li", T, 1, 1), term("li", 1, 1), term("li", "t", 1), term("li", T, "1"), term("li", T, T), term("li", T, num(1)),
                      term("mov", T), term("mov", T, A, A), term("mov", T, 1), term("mov", 1, A), term("mov", T, "a"), term("mov", term("t"), A), term("ld", T),
                      term("ld", T, 16), term("ld", T, -1), term("ld", T, "0"), term("ld", T, 1, 1), term("ld", 0, 0), term("op", "add", T, A), term("op", "add", T, A, B, B),
                      term("op", T, A, B), term("op", "div", T, A, B), term("op", "Add", T, A, B), term("op", "", T, A, B), term("op", 1, T, A, B), term("op", T, T, A, B),
                      term("op", "add", 1, A, B), term("op", "add", T, 1, B), term("op", "add", T, A, 1), term("op", "add", T, A, "b"), term("op", "add", "t", A, B),
                      term("op", num(1), T, A, B), term("add", T, A, B), term("st", A, 0), term("show", A), term("jz", A, 0), term("jump", 0), term("label", 0), term("halt"),
                      term(""), term("Li", T, 1), term("op")]:
            self.refused(SUM, ADD, wrong)
            self.refused(SUM, wrong, ADD)
        self.taken(SUM, term("li", T, 1), term("ld", T, 15), term("ld", T, 0), term("mov", T, A), ADD)
        for name in NAMES:
            self.taken(SUM, op(name, "t", "a", "b"), ADD)

    def test_what_is_set_is_no_hole_of_the_tree(self):
        tree = term("add", A, term("mul", num(N), var(S)))
        code = straight_code(tree)
        self.taken(tree, *code)
        for name in ["a", "n", "s"]:
            for wrong in [li(name, 1), ld(name, 1), mov(name, "a"), mov(name, "out"), op("add", name, "a", "a")]:
                self.refused(tree, *code, wrong)
        self.taken(tree, *code, li("b", 1), li("x", 1))

    def test_what_is_read(self):
        self.refused(SUM, op("add", "out", "a", "t"))
        self.refused(SUM, op("add", "out", "out", "b"))
        self.refused(SUM, mov("t", "x"), ADD)
        self.refused(SUM, mov("x", "t"), mov("t", "a"), op("add", "out", "x", "b"))
        self.refused(SUM, op("add", "t", "t", "b"), ADD)
        self.refused(SUM, op("add", "t", "a", "t"), ADD)
        self.taken(SUM, mov("t", "a"), op("add", "t", "t", "b"), mov("out", "t"))
        self.taken(SUM, mov("out", "a"), op("add", "out", "out", "b"))
        # The holes of numbers and of slots are not read like operands.
        for tree in [num(N), var(N)]:
            self.refused(tree, mov("out", "n"))
            self.refused(tree, li("t", 0), op("add", "out", "n", "t"))

    def test_numbers_and_slots_of_instructions(self):
        self.taken(num(N), li("out", N))
        self.taken(var(S), ld("out", S))
        self.refused(num(N), ld("out", N))
        self.refused(var(S), li("out", S))
        self.refused(SUM, li("t", A), ADD)
        self.refused(SUM, ld("t", A), ADD)
        self.refused(SUM, li("t", N), ADD)
        self.refused(SUM, ld("t", S), ADD)
        self.refused(SUM, li("t", 1), li("u", T), ADD)
        self.refused(num(N), li("out", hole("m")))
        self.refused(num(N), li("out", 1))
        self.refused(var(S), ld("out", 1))

    def test_out_is_set_in_the_end(self):
        self.refused(SUM)
        self.refused(SUM, op("add", "t", "a", "b"))
        self.refused(num(0), li("t", 0))
        self.refused(SUM, ADD, li("out", 0))
        self.refused(SUM, ADD, mov("out", "a"))
        self.taken(SUM, li("out", 0), ADD)
        self.taken(SUM, ADD, mov("t", "out"), li("out", 9), mov("out", "t"))

    def test_wrong_values(self):
        self.refused(SUM, op("sub", "out", "a", "b"))
        self.refused(SUM, op("add", "out", "a", "a"))
        self.refused(term("sub", A, B), op("sub", "out", "b", "a"))
        self.refused(term("less", A, B), op("less", "out", "b", "a"))
        self.refused(term("same", A, B), op("same", "out", "b", "a"))
        self.refused(term("less", A, B), op("same", "out", "a", "b"))
        self.refused(term("add", num(hole("m")), num(N)), li("t", N), li("out", N), op("add", "out", "out", "t"))
        self.refused(term("sub", var(S), var(3)), li("out", 0))

    def test_laws_of_sums_and_products(self):
        self.taken(SUM, op("add", "out", "b", "a"))
        self.taken(term("mul", A, B), op("mul", "out", "b", "a"))
        self.taken(term("sub", A, A), li("out", 0))
        self.taken(term("add", A, num(0)), mov("out", "a"))
        self.taken(term("mul", A, num(1)), mov("out", "a"))
        self.taken(term("mul", A, num(2)), op("add", "out", "a", "a"))
        self.taken(term("mul", A, num(0)), li("out", 0))
        self.taken(term("sub", num(0), A), li("t", -1), op("mul", "out", "a", "t"))
        self.taken(term("mul", A, term("add", A, B)), op("mul", "t", "a", "a"), op("mul", "u", "b", "a"), op("add", "out", "t", "u"))
        self.taken(term("add", num(2), num(3)), li("out", 5))
        self.taken(term("add", num(N), num(hole("m"))), li("t", N), li("out", hole("m")), op("add", "out", "out", "t"))
        self.taken(term("sub", term("mul", A, A), term("mul", B, B)), op("add", "t", "a", "b"), op("sub", "u", "a", "b"), op("mul", "out", "t", "u"))

    def test_modulo(self):
        half = 2 ** 31
        self.taken(num(half), li("out", -half))
        self.taken(term("mul", A, num(-half)), li("t", -half), op("mul", "out", "t", "a"))
        self.taken(term("add", term("mul", A, num(-half)), term("mul", A, num(-half))), li("out", 0))
        self.taken(term("mul", num(65536), num(65536)), li("out", 0))
        self.taken(term("mul", term("mul", A, num(65536)), term("mul", B, num(65536))), li("out", 0))
        self.taken(term("add", num(2147483647), num(1)), li("out", -half))
        self.taken(term("mul", A, num(-1)), li("t", 2 ** 32 - 1), op("mul", "out", "t", "a"))
        self.refused(term("mul", A, num(-half)), li("out", 0))
        self.refused(term("mul", term("mul", A, num(65536)), num(32768)), li("out", 0))
        # For numbers x * x * 2**31 and x * 2**31 are equal, but not as polynomials.
        self.refused(term("mul", term("mul", A, A), num(-half)), li("t", -half), op("mul", "out", "t", "a"))

    def test_comparisons(self):
        for name in ["less", "same"]:
            self.taken(term(name, A, B), op(name, "out", "a", "b"))
            self.taken(term(name, SUM, A), op("add", "t", "b", "a"), op(name, "out", "t", "a"))
            self.taken(term("sub", term(name, A, B), term(name, A, B)), li("out", 0))
            self.taken(term("add", term(name, A, B), term(name, A, B)), op(name, "t", "a", "b"), op("add", "out", "t", "t"))
            self.refused(term("sub", term(name, A, B), term(name, B, A)), li("out", 0))
            self.taken(term(name, term("sub", A, A), num(0)), li("t", 0), li("u", 0), op(name, "out", "t", "u"))
            # What such an operation gives is not worked out.
            self.refused(term(name, num(1), num(1)), li("out", 1 if name == "same" else 0))
            self.taken(term(name, term(name, A, B), num(1)), op(name, "t", "a", "b"), li("u", 1), op(name, "out", "t", "u"))
        self.refused(term("sub", term("less", A, B), term("same", A, B)), li("out", 0))

    def test_the_number_of_unknowns(self):
        self.straight(product(8))
        self.straight(product(9), False)
        self.straight(product(8, "ab"))
        self.straight(product(9, "abc"), False)
        self.straight(term("sub", product(8), product(8)))
        self.straight(term("mul", num(0), product(9)), False)
        self.straight(term("mul", term("mul", num(65536), product(5)), term("mul", num(65536), product(5))))
        self.straight(term("less", product(9), A), False)
        # A product may be too long only in a register.
        self.refused(SUM, op("mul", "t", "a", "a"), op("mul", "t", "t", "t"), op("mul", "t", "t", "t"), op("mul", "t", "t", "a"), ADD)
        self.taken(SUM, op("mul", "t", "a", "a"), op("mul", "t", "t", "t"), op("mul", "t", "t", "t"), ADD)

    def test_the_number_of_products(self):
        self.straight(total(60))
        self.straight(total(61), False)
        self.straight(term("add", total(59), num(1)))
        self.straight(term("add", total(60), num(1)), False)
        self.straight(term("add", total(60), num(0)))
        self.straight(term("add", total(60), hole("h5")))
        self.straight(term("sub", total(61), hole("h60")), False)
        self.straight(term("same", A, total(61)), False)
        wide = term("mul", total(10), total(10))
        self.straight(wide)
        # There are 55 products of two of 10 unknowns, and 66 of 11.
        self.straight(term("mul", total(11), total(11)), False)
        self.taken(SUM, *[op("add", "t", "a", "b"), op("mul", "t", "t", "t"), op("mul", "t", "t", "t"), op("mul", "t", "t", "t"), ADD])

    def test_patterns_by_chance(self):
        chance = random.Random(226)
        seen = {True: 0, False: 0}
        for _ in range(3000):
            pattern = some_judged(chance)
            taken = is_taken(pattern)
            seen[taken] += 1
            if taken:
                self.assertIsNone(check_pattern(pattern))
                self.compare(chance, pattern)
            else:
                self.assertRaises(CoverError, check_pattern, pattern)
        self.assertGreater(min(seen.values()), 500)

    def compare(self, chance, pattern):
        """Run the code of a pattern on some numbers."""
        given = {name: chance.choice(EDGES) for name in "abcmn"}
        given["s"] = chance.randrange(16)
        store = [chance.choice(EDGES) for _ in range(16)]
        expression = self.filled(pattern[1], given)
        coder = Coder([pattern] + BASE[:1])
        operands = {name for name in self.holes(pattern[1]) if name in "abc"}
        value = coder.expression(expression, (0, [(1, [])] * len(operands)))
        before = [part for slot in range(16) for part in [("li", 9000, store[slot]), ("st", 9000, slot)]]
        self.assertEqual(play(before + coder.code + [("show", value)], 999)[0], [plain_value(expression, store)])

    def filled(self, part, given):
        if isinstance(part, int):
            return part
        if part[0] == "hole":
            return ("num", given[part[1]]) if part[1] in "abc" else given[part[1]]
        return tuple([part[1]] + [self.filled(inner, given) for inner in part[2]])

    def holes(self, part):
        if isinstance(part, int):
            return []
        return [part[1]] if part[0] == "hole" else [name for inner in part[2] for name in self.holes(inner)]

    def test_deep(self):
        tree = A
        for k in range(120):
            tree = term("add" if k % 2 else "sub", tree, hole("h" + str(k % 40)))
        self.straight(tree)
        tree = A
        for _ in range(120):
            tree = term("less", tree, B)
        self.assertIsNone(check_pattern((1, tree, straight_code(tree))))

    def test_arguments_stay(self):
        tree = term("mul", term("add", A, num(N)), var(S))
        pattern = (1, tree, straight_code(tree))
        given = copy.deepcopy(pattern)
        check_pattern(pattern)
        self.assertRaises(CoverError, check_pattern, (1, tree, pattern[2][:-1]))
        self.assertEqual(pattern, given)


if __name__ == "__main__":
    unittest.main()
