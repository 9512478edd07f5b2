"""The middle language: points 20.1 to 20.6."""

import copy
import itertools
import random
import unittest

from middle import EDGES, NAMES, PlainRun, plain_value, some_expression, some_statement
from scribeself.errors import FuelError
from scribeself.meaning import begin, evaluate, is_expression, is_statement, observe, operate, run, step, wrap

LEAST, MOST = -2147483648, 2147483647
ZERO = [0] * 16
COUNT = ("seq", ("set", 1, ("num", 2)), ("loop", ("var", 1), ("seq", ("show", ("var", 1)), ("set", 1, ("sub", ("var", 1), ("num", 1))))))
ENDLESS = ("loop", ("num", 1), ("show", ("num", 7)))


def num(n):
    return ("num", n)


def nested(deep):
    """An expression that is nested some times."""
    found = num(1)
    for k in range(deep - 1):
        found = ("add", found, num(1)) if k % 2 else ("add", num(1), found)
    return found


class NumbersTest(unittest.TestCase):
    def test_wrap(self):
        for n, found in [(0, 0), (-1, -1), (MOST, MOST), (LEAST, LEAST), (MOST + 1, LEAST), (LEAST - 1, MOST), (2 ** 32, 0), (-2 ** 32, 0),
                         (2 ** 32 - 1, -1), (2 ** 100 + 5, 5), (-2 ** 100 - 5, -5), (3 * 2 ** 31, LEAST)]:
            self.assertEqual(wrap(n), found)

    def test_operate(self):
        for name, a, b, found in [("add", 2, 3, 5), ("add", MOST, 1, LEAST), ("add", LEAST, -1, MOST), ("add", LEAST, LEAST, 0), ("sub", 2, 3, -1),
                                  ("sub", LEAST, 1, MOST), ("sub", 0, LEAST, LEAST), ("mul", -4, 3, -12), ("mul", 65536, 65536, 0),
                                  ("mul", 65536, 32768, LEAST), ("mul", LEAST, -1, LEAST), ("mul", MOST, MOST, 1), ("less", 1, 2, 1), ("less", 2, 2, 0),
                                  ("less", LEAST, MOST, 1), ("less", MOST, LEAST, 0), ("same", 3, 3, 1), ("same", 3, -3, 0), ("same", LEAST, LEAST, 1)]:
            self.assertEqual(operate(name, a, b), found)

    def test_all_edges(self):
        for name, a, b in itertools.product(NAMES, EDGES, EDGES):
            found = operate(name, a, b)
            self.assertEqual(found, plain_value((name, num(a), num(b)), ZERO))
            self.assertNotIsInstance(found, bool)


class ShapeTest(unittest.TestCase):
    def test_expressions(self):
        for value in [num(0), num(LEAST), num(MOST), ("var", 0), ("var", 15)] + [(name, num(1), ("var", 2)) for name in NAMES]:
            self.assertIs(is_expression(value), True)
            self.assertIs(is_statement(value), False)
            self.assertIs(is_statement(("show", value)), True)

    def test_what_is_no_expression(self):
        wrong = [None, True, False, 0, "num", "", (), [], ("num",), ("num", 1, 2), ["num", 1], num(True), num(False), num("1"), num(None),
                 num([1]), num((1,)), num(num(1)), num(MOST + 1), num(LEAST - 1), ("var",), ("var", 16), ("var", -1), ("var", True),
                 ("var", False), ("var", "0"), ("var", None), ("Num", 1), ("", 1), (None, 1), (True, 1), (1, 1), (("num", 1),), ([], 1),
                 ("add",), ("add", num(1)), ("add", num(1), num(1), num(1)), ["add", num(1), num(1)], ("add", ["num", 1], num(1)),
                 ("add", num(1), 1), ("add", 1, num(1)), ("add", num(1), None), ("less", num(1), ("skip",)), ("div", num(1), num(1)),
                 ("set", 0, num(1)), ("same", num(1), ("add", num(1), ("var", 16)))]
        for value in wrong:
            self.assertIs(is_expression(value), False, value)
            for outer in [("show", value), ("set", 0, value), ("loop", value, ("skip",)), ("when", value, ("skip",), ("skip",)), ("seq", ("skip",), ("show", value))]:
                self.assertIs(is_statement(outer), False, outer)

    def test_statements(self):
        show = ("show", num(1))
        for value in [("skip",), show, ("set", 0, num(1)), ("set", 15, ("var", 0)), ("seq", show, ("skip",)), ("when", num(0), show, ("skip",)),
                      ("loop", ("var", 1), show), ("seq", ("seq", show, show), ("loop", num(1), ("when", num(1), show, show))), COUNT]:
            self.assertIs(is_statement(value), True)
            self.assertIs(is_expression(value), False)

    def test_what_is_no_statement(self):
        skip = ("skip",)
        for value in [None, True, False, 1, "skip", "", (), [], ["skip"], ("skip", 1), ("Skip",), (skip,), ("show",), ("show", num(1), num(1)),
                      ("show", skip), ("show", 1), ("set", num(1)), ("set", 16, num(1)), ("set", -1, num(1)), ("set", True, num(1)),
                      ("set", False, num(1)), ("set", "0", num(1)), ("set", None, num(1)), ("set", ("var", 0), num(1)), ("set", 0, num(1), num(1)),
                      ("set", 0, skip), ("seq", skip), ("seq", skip, skip, skip), ("seq", skip, num(1)), ("seq", num(1), skip), ("seq", skip, ["skip"]),
                      ("seq", skip, None), ["seq", skip, skip], ("when", num(1), skip), ("when", skip, skip, skip), ("when", num(1), skip, num(1)),
                      ("when", num(1), num(1), skip), ("loop", num(1)), ("loop", skip, skip), ("loop", num(1), num(1)), ("loop", num(1), skip, skip),
                      ("test", num(1), skip), ("seq", ("test", num(1), skip), skip), (True,), (None, num(1)), ("configuration", (), (), ())]:
            self.assertIs(is_statement(value), False, value)
            self.assertIs(is_statement(("seq", ("skip",), value)), False, value)
            self.assertIs(is_statement(("loop", num(1), value)), False, value)

    def test_the_depth(self):
        self.assertIs(is_expression(nested(100)), True)
        self.assertIs(is_expression(nested(101)), False)
        self.assertIs(is_expression(nested(200)), False)
        self.assertIs(is_statement(("show", nested(99))), True)
        self.assertIs(is_statement(("show", nested(100))), False)
        self.assertIs(is_statement(("loop", num(1), ("set", 0, nested(98)))), True)
        self.assertIs(is_statement(("loop", num(1), ("set", 0, nested(99)))), False)
        for outer in [lambda a: ("seq", a, ("skip",)), lambda a: ("seq", ("skip",), a), lambda a: ("loop", num(0), a), lambda a: ("when", num(0), ("skip",), a)]:
            found = ("skip",)
            for deep in range(2, 200):
                found = outer(found)
                self.assertIs(is_statement(found), deep <= 100)
        deep = []
        for _ in range(199):
            deep = [deep]
        self.assertEqual([is_expression(deep), is_statement(deep), is_expression(("num", deep)), is_statement(("show", deep))], [False] * 4)


class EvaluateTest(unittest.TestCase):
    def test_evaluate(self):
        store = list(range(100, 116))
        self.assertEqual(evaluate(num(-3), store), -3)
        self.assertEqual([evaluate(("var", slot), store) for slot in range(16)], store)
        self.assertEqual([evaluate(("var", slot), tuple(store)) for slot in range(16)], store)
        self.assertEqual(evaluate(("sub", ("var", 0), ("mul", num(2), ("var", 15))), store), 100 - 230)
        self.assertEqual(evaluate(("less", ("var", 1), ("var", 2)), store), 1)
        self.assertEqual(evaluate(("add", num(MOST), ("same", num(1), num(1))), store), LEAST)
        self.assertEqual(evaluate(nested(130), store), 130)

    def test_expressions_by_chance(self):
        chance = random.Random(20)
        for _ in range(500):
            expression = some_expression(chance, 5, 16)
            store = [chance.choice(EDGES) for _ in range(16)]
            self.assertIs(is_expression(expression), True)
            self.assertEqual(evaluate(expression, store), plain_value(expression, store))


class StepTest(unittest.TestCase):
    def after(self, item, todo, changed=None, shown=()):
        """Look at a step that takes an item ahead of another one, where slot 2 has 5: what comes in its place, and what it does."""
        store = [0, 0, 5] + ZERO[3:]
        told = [(changed or {}).get(slot, store[slot]) for slot in range(16)]
        rest = ("show", num(9))
        self.assertEqual(step(("configuration", (item, rest), tuple(store), (4,))), ("configuration", todo + (rest,), tuple(told), (4,) + shown))

    def test_begin(self):
        self.assertEqual(begin(COUNT), ("configuration", (COUNT,), tuple(ZERO), ()))

    def test_each_kind(self):
        a, b, yes, no = ("show", num(1)), ("skip",), ("var", 2), ("var", 0)
        self.after(("set", 0, ("add", yes, num(2))), (), {0: 7})
        self.after(("set", 2, ("add", yes, num(2))), (), {2: 7})
        self.after(("show", ("add", yes, num(2))), (), shown=(7,))
        self.after(b, ())
        self.after(("seq", a, b), (a, b))
        self.after(("when", yes, a, b), (a,))
        self.after(("when", no, a, b), (b,))
        self.after(("when", num(-1), a, b), (a,))
        for test in [yes, no]:
            self.after(("loop", test, a), (("test", test, a),))
        self.after(("test", yes, a), (a, ("test", yes, a)))
        self.after(("test", num(-1), a), (a, ("test", num(-1), a)))
        self.after(("test", no, a), ())

    def test_what_has_ended(self):
        ended = ("configuration", (), tuple(range(16)), (1, 2))
        self.assertEqual(step(ended), ended)

    def test_all_steps_of_statements_by_chance(self):
        chance = random.Random(205)
        for _ in range(200):
            statement = some_statement(chance, 4)
            found = begin(statement)
            for fuel in range(60):
                plain = PlainRun(statement, fuel)
                self.assertEqual((not found[1], found[3]), (plain.ended, tuple(plain.shown)))
                self.assertEqual(found[2], tuple(plain.store))
                self.assertIsInstance(found[1], tuple)
                found = step(found)


class RunTest(unittest.TestCase):
    def test_example(self):
        self.assertEqual(run(COUNT, 20), ([2, 1], ZERO, 12))
        self.assertEqual(observe(COUNT, 6), (False, [2]))

    def test_the_fuel(self):
        self.assertEqual(run(COUNT, 12), ([2, 1], ZERO, 12))
        self.assertRaises(FuelError, run, COUNT, 11)
        self.assertRaises(FuelError, run, COUNT, 0)
        self.assertEqual(observe(COUNT, 12), (True, [2, 1]))
        self.assertEqual(observe(COUNT, 11), (False, [2, 1]))
        self.assertEqual(observe(COUNT, 0), (False, []))

    def test_the_steps(self):
        one = ("set", 3, num(4))
        store = [0, 0, 0, 4] + ZERO[4:]
        for statement, steps in [(one, 1), (("seq", one, ("skip",)), 3), (("when", num(1), one, ("skip",)), 2), (("when", num(0), ("skip",), one), 2),
                                 (("seq", one, ("loop", num(0), ("show", num(1)))), 4)]:
            self.assertEqual(run(statement, steps), ([], store, steps))
            self.assertRaises(FuelError, run, statement, steps - 1)
            self.assertEqual(observe(statement, steps), (True, []))
            self.assertEqual(observe(statement, steps - 1), (False, []))
        self.assertEqual(run(("skip",), 1), ([], ZERO, 1))
        self.assertRaises(FuelError, run, ("skip",), 0)

    def test_without_end(self):
        self.assertRaises(FuelError, run, ENDLESS, 2000)
        # The loop, and then a test and a "show" in turn.
        self.assertEqual([observe(ENDLESS, fuel) for fuel in range(6)],
                         [(False, []), (False, []), (False, []), (False, [7]), (False, [7]), (False, [7, 7])])
        self.assertEqual(observe(ENDLESS, 2001), (False, [7] * 1000))

    def test_statements_by_chance(self):
        chance = random.Random(206)
        seen = {True: 0, False: 0}
        for _ in range(1500):
            statement = some_statement(chance, 5)
            plain = PlainRun(statement, 300)
            self.assertIs(is_statement(statement), True)
            self.assertEqual(observe(statement, 300), (plain.ended, plain.shown))
            self.assertIs(observe(statement, 300)[0], plain.ended)
            seen[plain.ended] += 1
            if plain.ended:
                self.assertEqual(run(statement, plain.steps), (plain.shown, plain.store, plain.steps))
                self.assertRaises(FuelError, run, statement, plain.steps - 1)
            else:
                self.assertRaises(FuelError, run, statement, 300)
        self.assertGreater(min(seen.values()), 30)

    def test_deep(self):
        statement = ("show", nested(100))
        for _ in range(120):
            statement = ("seq", statement, ("loop", num(0), ("skip",)))
        self.assertEqual(run(statement, 1000), ([100], ZERO, 1 + 3 * 120))

    def test_arguments_stay_and_results_are_new(self):
        found = run(COUNT, 20)
        found[0].clear()
        found[1].clear()
        self.assertEqual(run(COUNT, 20), ([2, 1], ZERO, 12))
        shown = observe(COUNT, 20)[1]
        shown.clear()
        self.assertEqual(observe(COUNT, 20), (True, [2, 1]))
        store, value = list(range(16)), ["num", [1], ("add", ["x"], None)]
        given = copy.deepcopy((store, value))
        evaluate(("add", ("var", 3), num(1)), store)
        is_expression(value)
        is_statement(value)
        self.assertEqual((store, value), given)


if __name__ == "__main__":
    unittest.main()
