"""Rewriting: points 19.1 to 19.3."""

import copy
import random
import unittest

from scribeself.errors import FuelError
from scribeself.rewriting import normal, rules_fit, step


def term(name, *parts):
    return ("term", name, list(parts))


def hole(name):
    return ("hole", name)


X, Y = hole("x"), hole("y")


def plain_match(pattern, value, found):
    if isinstance(pattern, (int, str)):
        return isinstance(value, type(pattern)) and pattern == value
    if pattern[0] == "hole":
        return found.setdefault(pattern[1], value) == value
    return (isinstance(value, tuple) and pattern[1] == value[1] and len(pattern[2]) == len(value[2])
            and all(plain_match(part, other, found) for part, other in zip(pattern[2], value[2])))


def plain_filled(pattern, found):
    if isinstance(pattern, (int, str)):
        return pattern
    if pattern[0] == "hole":
        return found[pattern[1]]
    return ("term", pattern[1], [plain_filled(part, found) for part in pattern[2]])


def plain_step(rules, value):
    """The value after a step, place by place, or None."""
    if not isinstance(value, tuple):
        return None
    for at, part in enumerate(value[2]):
        after = plain_step(rules, part)
        if after is not None:
            return ("term", value[1], value[2][:at] + [after] + value[2][at + 1:])
    for left, right in rules:
        found = {}
        if plain_match(left, value, found):
            return plain_filled(right, found)
    return None


def some_pattern(chance, deep, holes):
    choice = chance.random()
    if deep and choice < 0.6:
        return term(chance.choice("fg"), *[some_pattern(chance, deep - 1, holes) for _ in range(chance.randint(0, 2))])
    return hole(chance.choice(holes)) if holes and choice < 0.85 else chance.choice([0, 1, "0", "a"])


def some_rules(chance):
    rules = []
    for _ in range(chance.randint(0, 4)):
        left = term(chance.choice("fg"), *[some_pattern(chance, 1, "xy") for _ in range(chance.randint(0, 2))])
        right = some_pattern(chance, 2, [name for name in "xy" if str(hole(name)) in str(left)])
        rules.append((left, right))
    return rules


def some_value(chance, deep):
    choice = chance.random()
    if deep and choice < 0.75:
        return term(chance.choice("fg"), *[some_value(chance, deep - 1) for _ in range(chance.randint(0, 2))])
    if deep and choice < 0.85:
        return [some_value(chance, deep - 1) for _ in range(chance.randint(0, 2))]
    return chance.choice([0, 1, "0", "a"])


class FitTest(unittest.TestCase):
    def test_rules_that_fit(self):
        self.assertIs(rules_fit([]), True)
        self.assertIs(rules_fit([(term("f"), 0), (term("f", X, 1, "a", term("g", X, Y)), term("g", Y, term("h", X)))]), True)
        self.assertIs(rules_fit([(term("f", term("g", X)), X), (term("hole", Y), "x")]), True)

    def test_rules_that_do_not_fit(self):
        fine = (term("f", X), X)
        for wrong in [(X, X), (0, 0), ("f", term("f")), (X, 1), (term("f"), X), (term("f", X), Y), (term("f", "x"), X),
                      (term("x"), hole("x")), (term("f", X), term("g", X, term("h", term("i", Y))))]:
            self.assertIs(rules_fit([wrong]), False)
            self.assertIs(rules_fit([fine, wrong]), False)
            self.assertIs(rules_fit([wrong, fine]), False)

    def test_holes_are_known_by_their_own_rule(self):
        self.assertIs(rules_fit([(term("f", X), X), (term("f", Y), X)]), False)


class MatchTest(unittest.TestCase):
    def becomes(self, pattern, value, after):
        self.assertEqual(step([(term("f", pattern), "yes")], term("f", value)), "yes" if after else None)

    def test_integers_and_strings(self):
        for pattern, value, after in [(1, 1, True), (1, 2, False), (-1, -1, True), ("a", "a", True), ("a", "b", False), ("", "", True),
                                      (1, "1", False), ("1", 1, False), (0, "", False), (0, [], False), ("", [], False), ("a", ["a"], False),
                                      ("a", term("a"), False), (0, term("a"), False)]:
            self.becomes(pattern, value, after)

    def test_terms(self):
        for value, after in [(term("t"), True), (term("t", 1), False), (term("u"), False), ("t", False), ([], False), (["term", "t", []], False)]:
            self.becomes(term("t"), value, after)
        for value, after in [(term("t", 1, 2), True), (term("t", 1), False), (term("t", 1, 2, 3), False), (term("t", 2, 1), False),
                             (term("t", 1, term("t")), False)]:
            self.becomes(term("t", 1, 2), value, after)
        self.becomes(term("t", term("u", term("v"))), term("t", term("u", term("v"))), True)
        self.becomes(term("t", term("u", term("v"))), term("t", term("u", term("w"))), False)

    def test_holes(self):
        for value in [0, "", "a", [], [1, ["b"]], term("t", [1])]:
            self.becomes(X, value, True)
            self.assertEqual(step([(term("f", X, Y), term("g", Y, X, Y))], term("f", value, 7)), term("g", 7, value, 7))
        self.assertIsNone(step([(term("f", X), 1)], term("f", 1, 2)))
        self.assertIsNone(step([(term("f", X), 1)], term("f")))

    def test_holes_of_one_name(self):
        rules = [(term("f", X, term("t", X, Y)), Y)]
        for one, two, after in [(1, 1, 9), (1, 2, None), (1, "1", None), ([1, 2], [1, 2], 9), ([1, 2], [2, 1], None), ("a", "a", 9),
                                (term("u", [3]), term("u", [3]), 9), (term("u", [3]), term("u", [4]), None), ([], "", None), (["x"], "x", None)]:
            self.assertEqual(step(rules, term("f", one, term("t", two, 9))), after)
        self.assertEqual(step([(term("f", X, Y), X)], term("f", 5, 5)), 5)


class StepTest(unittest.TestCase):
    def test_no_step(self):
        rules = [(term("f", X), X)]
        for value in [0, "f", [], [term("f", 1)], term("g"), term("f"), term("g", [term("f", 1)], "f")]:
            self.assertIsNone(step(rules, value))
            self.assertEqual(normal(rules, value), value)
        self.assertIsNone(step([], term("f", 1)))

    def test_the_first_place(self):
        rules = [(term("f", X), term("g", X))]
        # From the inside, so the parts come before the term; and from left to right, so the first part before the second.
        for value, after in [(term("f", term("f", term("f", 1))), term("f", term("f", term("g", 1)))),
                             (term("h", term("f", 1), term("f", term("f", 2))), term("h", term("g", 1), term("f", term("f", 2)))),
                             (term("h", term("h", 1, term("f", term("f", 2))), term("f", 3)), term("h", term("h", 1, term("f", term("g", 2))), term("f", 3))),
                             (term("f", term("h", term("f", 1), term("f", 2))), term("f", term("h", term("g", 1), term("f", 2)))),
                             (term("f", [term("f", 1)]), term("g", [term("f", 1)]))]:
            self.assertEqual(step(rules, value), after)

    def test_the_first_rule(self):
        rules = [(term("f", 0), "zero"), (term("f", X), "any"), (term("f", 1), "one"), (term("g", X, X), "same"), (term("g", X, Y), "both")]
        self.assertEqual([step(rules, term("f", k)) for k in [0, 1, "0"]], ["zero", "any", "any"])
        self.assertEqual([step(rules, term("g", k, 1)) for k in [1, 2]], ["same", "both"])
        # The place counts before the rule.
        self.assertEqual(step(rules, term("f", term("g", 1, 2))), term("f", "both"))

    def test_a_place_that_comes_earlier_after_a_step(self):
        # The step at the whole makes a new term inside, which is then the first place.
        rules = [(term("f", X), term("g", term("h", X), term("f", 0, X))), (term("h", X), X), (term("g", X, Y), "done")]
        value = term("f", 7)
        values = []
        while value is not None:
            values.append(value)
            value = step(rules, value)
        self.assertEqual(values, [term("f", 7), term("g", term("h", 7), term("f", 0, 7)), term("g", 7, term("f", 0, 7)), "done"])

    def test_integers_and_strings_in_the_right_pattern(self):
        self.assertEqual(step([(term("f", X), 3)], term("g", term("f", 1))), term("g", 3))
        self.assertEqual(step([(term("f", X), term("t", "a", -1, X))], term("f", [])), term("t", "a", -1, []))


class NormalTest(unittest.TestCase):
    def test_example(self):
        zero = (term("add", X, term("num", 0)), X)
        value = term("add", term("add", term("var", 1), term("num", 0)), term("num", 0))
        self.assertEqual(normal([zero], value), term("var", 1))

    def test_lists(self):
        rules = [(term("f", X), term("g", X))]
        self.assertEqual(normal(rules, [term("f", 1)]), [term("f", 1)])
        self.assertEqual(normal(rules, term("h", [term("f", 1)], term("f", [term("f", 2)]))), term("h", [term("f", 1)], term("g", [term("f", 2)])))

    def test_the_number_of_steps(self):
        one = [(term("f", X), X)]
        row = term("t", *[term("f", k) for k in range(400)])
        self.assertEqual(normal(one, row), term("t", *range(400)))
        self.assertRaises(FuelError, normal, one, term("t", *[term("f", k) for k in range(401)]))
        self.assertRaises(FuelError, normal, one, term("f", row))

    def test_steps_that_make_new_places(self):
        # A sum of a number that is written with n times "s" takes n + 1 steps.
        rules = [(term("add", term("s", X), Y), term("add", X, term("s", Y))), (term("add", term("o"), Y), Y)]
        number = term("o")
        for _ in range(99):
            number = term("s", number)
        sums = [term("add", number, term("o")) for _ in range(4)]
        self.assertEqual(normal(rules, term("t", *sums)), term("t", *[number] * 4))
        self.assertRaises(FuelError, normal, rules, term("t", *sums, term("add", term("o"), 1)))
        self.assertEqual(normal(rules, term("t", *sums[1:], term("add", term("o"), 1))), term("t", *[number] * 3, 1))

    def test_no_end(self):
        for rules in [[(term("f"), term("f"))], [(term("f"), term("g")), (term("g"), term("f"))], [(term("f"), term("t", term("f")))],
                      [(term("f"), term("t", term("f"), term("f")))]]:
            self.assertEqual(step(rules, term("f")), rules[0][1])
            self.assertRaises(FuelError, normal, rules, term("h", term("f")))

    def test_values_by_chance(self):
        chance = random.Random(19)
        seen = {"none": 0, "some": 0, "endless": 0}
        for _ in range(3000):
            rules, value = some_rules(chance), some_value(chance, 4)
            self.assertIs(rules_fit(rules), True)
            after, steps = value, 0
            while after is not None and steps <= 400 and len(str(after)) < 4000:
                self.assertEqual(step(rules, after), plain_step(rules, after))
                last, after, steps = after, plain_step(rules, after), steps + 1
            if after is None:
                seen["none" if steps == 1 else "some"] += 1
                self.assertEqual(normal(rules, value), last)
            elif steps > 400:
                seen["endless"] += 1
                self.assertRaises(FuelError, normal, rules, value)
        self.assertGreater(min(seen.values()), 50)

    def test_deep(self):
        value, pattern, long = term("o"), X, term("o")
        for _ in range(120):
            value, pattern, long = term("s", value), term("s", pattern), term("f", long)
        self.assertEqual(normal([(pattern, X)], value), term("o"))
        self.assertEqual(step([(term("f", X), X)], long), long[2][0])
        self.assertEqual(normal([(term("f", X), X)], long), term("o"))
        self.assertIs(rules_fit([(pattern, pattern)]), True)
        twice = [(term("same", X, X), "yes")]
        self.assertEqual(normal(twice, term("same", value, copy.deepcopy(value))), "yes")
        self.assertEqual(normal(twice, term("same", value, value[2][0])), term("same", value, value[2][0]))

    def test_arguments_stay(self):
        rules = [(term("f", X, term("g", 0)), term("h", X, X))]
        value = term("f", term("f", [1], term("g", 0)), term("g", 0))
        given = copy.deepcopy((rules, value))
        self.assertEqual(normal(rules, value), term("h", term("h", [1], [1]), term("h", [1], [1])))
        step(rules, value)
        rules_fit(rules)
        self.assertEqual((rules, value), given)


if __name__ == "__main__":
    unittest.main()
