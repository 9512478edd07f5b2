"""Attributes: points 12.1 to 12.3."""

import copy
import unittest

from scribeself.equations import check
from scribeself.errors import EquationError

RULES = [("rule", "s", "top", [("nt", "n"), ("lit", ";"), ("nt", "n")]), ("rule", "n", "more", [("class", "01"), ("nt", "n")]),
         ("rule", "n", "none", []), ("rule", "m", "other", [("nt", "m"), ("lit", "x")])]
GRAMMAR = ("grammar", "s", RULES)
BELOW = [("s", "out", "once"), ("n", "size", "most"), ("n", "seen", "all")]
ABOVE = [("n", "from", "once")]
EQUATIONS = [("eq", 0, ("own", "out"), ("call", "list", [("kid", 0, "size"), ("kidtext", 1), ("kid", 2, "from"), ("text",)])),
             ("eq", 0, ("kid", 0, "from"), ("own", "out")), ("eq", 0, ("kid", 2, "from"), ("kid", 0, "size")),
             ("eq", 1, ("own", "size"), ("call", "add", [("val", 1), ("kid", 1, "size")])),
             ("eq", 1, ("own", "seen"), ("if", ("own", "from"), ("kid", 1, "seen"), ("kidtext", 0))),
             ("eq", 1, ("kid", 1, "from"), ("own", "from")), ("eq", 2, ("own", "size"), ("val", 0)),
             ("eq", 2, ("own", "seen"), ("own", "size"))]


class CheckTest(unittest.TestCase):
    def wrong(self, below=BELOW, above=ABOVE, equations=EQUATIONS):
        with self.assertRaises(EquationError):
            check(GRAMMAR, ("attributes", below, above, equations))

    def changed(self, index, expression):
        """The equations with another expression in one of them."""
        _, rule, target, _ = EQUATIONS[index]
        return EQUATIONS[:index] + [("eq", rule, target, expression)] + EQUATIONS[index + 1:]

    def test_correct(self):
        self.assertIsNone(check(GRAMMAR, ("attributes", BELOW, ABOVE, EQUATIONS)))
        self.assertIsNone(check(GRAMMAR, ("attributes", BELOW[::-1], ABOVE, EQUATIONS[::-1])))
        self.assertIsNone(check(GRAMMAR, ("attributes", [], [], [])))

    def test_the_same_attribute_of_other_names(self):
        below = [("s", "out", "once"), ("m", "out", "all")]
        equations = [("eq", 0, ("own", "out"), ("val", 0)), ("eq", 3, ("own", "out"), ("kid", 0, "out"))]
        self.assertIsNone(check(GRAMMAR, ("attributes", below, [], equations)))

    def test_names_and_kinds(self):
        self.wrong(below=BELOW + [("x", "out", "once")])
        self.wrong(above=ABOVE + [("x", "out", "once")])
        self.wrong(above=ABOVE + [("", "out", "all")])
        for kind in ["", "twice", "Once", "oncemost"]:
            self.wrong(below=[("s", "out", kind)] + BELOW[1:])
            self.wrong(above=[("n", "from", kind)])

    def test_declared_twice(self):
        self.wrong(below=BELOW + [("n", "size", "most")])
        self.wrong(below=BELOW + [("n", "size", "once")])
        self.wrong(above=ABOVE + [("n", "from", "once")])
        self.wrong(above=ABOVE + [("n", "size", "once")])

    def test_the_start_has_none_above(self):
        grammar = ("grammar", "n", RULES[1:3])
        below = [("n", "size", "once")]
        equations = [("eq", 0, ("own", "size"), ("val", 0)), ("eq", 1, ("own", "size"), ("val", 0))]
        self.assertIsNone(check(grammar, ("attributes", below, [], equations)))
        above = [("n", "from", "once")]
        more = equations + [("eq", 0, ("kid", 1, "from"), ("val", 0))]
        self.assertRaises(EquationError, check, grammar, ("attributes", below, above, more))
        self.wrong(above=ABOVE + [("s", "in", "once")])

    def test_missing_equations(self):
        for at in range(len(EQUATIONS)):
            self.wrong(equations=EQUATIONS[:at] + EQUATIONS[at + 1:])
        self.wrong(equations=[])

    def test_doubled_equations(self):
        for at, (_, rule, target, _) in enumerate(EQUATIONS):
            self.wrong(equations=EQUATIONS + [EQUATIONS[at]])
            self.wrong(equations=EQUATIONS + [("eq", rule, target, ("val", 1))])

    def test_other_equations(self):
        for rule, target in [(0, ("own", "size")), (0, ("own", "other")), (0, ("kid", 1, "from")), (0, ("kid", 3, "from")),
                             (0, ("kid", -1, "from")), (0, ("kid", 0, "size")), (0, ("kid", 0, "other")), (1, ("own", "from")),
                             (1, ("kid", 0, "from")), (2, ("kid", 0, "from")), (3, ("own", "size")), (3, ("kid", 0, "from")),
                             (4, ("own", "size")), (-1, ("own", "size")), (-2, ("own", "size")), (-4, ("own", "out"))]:
            self.wrong(equations=EQUATIONS + [("eq", rule, target, ("val", 0))])

    def test_references(self):
        for expression in [("own", "size"), ("own", "from"), ("own", "none"), ("kid", 0, "out"), ("kid", 1, "size"), ("kid", 3, "size"),
                           ("kid", -1, "size"), ("kid", -3, "size"), ("kid", 0, "none"), ("kidtext", 3), ("kidtext", -1)]:
            for inside in [expression, ("call", "f", [("val", 1), expression]), ("if", expression, ("val", 1), ("val", 2)),
                           ("if", ("val", 1), expression, ("val", 2)), ("if", ("val", 1), ("val", 2), expression),
                           ("call", "f", [("call", "g", [("if", ("val", 0), ("val", 1), expression)])])]:
                self.wrong(equations=self.changed(0, inside))
        self.wrong(equations=self.changed(6, ("kidtext", 0)))
        self.wrong(equations=self.changed(4, ("kid", 0, "seen")))
        for expression in [("kidtext", 2), ("kid", 2, "seen"), ("kid", 0, "from"), ("own", "out"), ("call", "any function", [])]:
            self.assertIsNone(check(GRAMMAR, ("attributes", BELOW, ABOVE, self.changed(0, expression))))

    def test_arguments_stay(self):
        grammar = copy.deepcopy(GRAMMAR)
        attributes = copy.deepcopy(("attributes", BELOW, ABOVE, EQUATIONS))
        check(grammar, attributes)
        self.assertEqual((grammar, attributes), (GRAMMAR, ("attributes", BELOW, ABOVE, EQUATIONS)))


if __name__ == "__main__":
    unittest.main()
