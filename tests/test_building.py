"""Building: points 30.1 to 30.4, with a language of operators, loops and choices."""

import copy
import random
import unittest

from covering import BASE, hole, op, some_patterns, term
from describing import LANGUAGE, small_description
from middle import PlainRun, some_statement
from scribeself.building import Built, build, code_of, image_shows, meaning_shows, read_by, result_of, statement_of
from scribeself.codes import assemble
from scribeself.colouring import allocate
from scribeself.converting import as_value
from scribeself.covers import compiled
from scribeself.descriptions import fits, read
from scribeself.errors import CoverError, CycleError, DescriptionError, EquationError, FuelError, SpillError, TreeError, ValueFault
from scribeself.forests import parse
from scribeself.linking import link
from scribeself.machines import check_list
from scribeself.meaning import is_statement, run
from scribeself.running import execute, observe_image
from scribeself.scheduling import best_order, check_schedule, stretches
from scribeself.solving import solve

CALCULATOR = read(LANGUAGE)
FACTORIAL = "n = 5; s = 1;\nwhile 0 < n { s = s * n; n = n - 1; };\nshow s;\nif s == 120 { show -1 + 2 * 3; } else { show 0; };"


def language(result, *lines):
    """A language of the single text "x", with a result and more lines."""
    return read("start a\nrule one a : 'x'\nbelow once a out\neq one out " + result + "\n" + "".join(line + "\n" for line in lines) + "machine 2 1 1 1\n")


def given(statement, patterns, machine):
    """A description and a result for a statement."""
    def told(part):
        return ("term", part[0], [told(one) for one in part[1:]]) if isinstance(part, tuple) else part
    return small_description(patterns=patterns, machine=machine), told(statement)


class Python:
    """Programs of the language by chance, as a text and as what they show, by Python's own operators."""

    def __init__(self, chance):
        self.chance, self.names, self.used = chance, "xyz", 0

    def space(self):
        return self.chance.choice(["", " ", "\n "])

    def value(self, deep, level=0):
        """A text and a function of the variables; the level tells which operators may stand without brackets."""
        choice = self.chance.random()
        if not deep or choice < 0.2:
            n = self.chance.choice([0, 1, 2, 7, 40000, 999999999])
            return str(n) + self.space(), lambda env: n
        if choice < 0.4:
            name = self.chance.choice(self.names)
            return name + self.space(), lambda env: env.get(name, 0)
        if choice < 0.5:
            text, one = self.value(deep - 1, 4)
            return "-" + self.space() + text, lambda env: -one(env)
        if choice < 0.6:
            text, one = self.value(deep - 1)
            return "(" + self.space() + text + ")" + self.space(), one
        sign, at, action = self.chance.choice([("==", 0, lambda a, b: int(a == b)), ("<", 1, lambda a, b: int(a < b)), ("+", 2, lambda a, b: a + b), ("-", 2, lambda a, b: a - b),
                                               ("*", 3, lambda a, b: a * b)])
        (first, one), (second, two) = self.value(deep - 1, at), self.value(deep - 1, at + 1)
        text = first + sign + self.space() + second
        if at < level:
            text = "(" + text + ")" + self.space()
        return text, lambda env: (action(one(env), two(env)) + 2 ** 31) % 2 ** 32 - 2 ** 31

    def command(self, deep):
        text, value = self.value(2)
        if deep and self.chance.random() < 0.4:
            (body, first), (other, second) = self.commands(deep - 1), self.commands(deep - 1)
            text = "if (" + text + "){" + body + "}"

            def chosen(env):
                return (first if value(env) else second)(env)
            if self.chance.random() < 0.5:
                return text + "else{" + other + "};", chosen
            return text + ";", lambda env: first(env) if value(env) else []
        if deep and self.chance.random() < 0.4:
            (body, first), name, many = self.commands(deep - 1), self.chance.choice("uvw"), self.chance.randint(0, 3)

            def repeated(env):
                return [number for _ in range(many) for number in first(env)]
            if name not in body and self.used < 3:
                self.used += 1
                return name + "=0;while " + name + "<" + str(many) + "{" + body + name + "=" + name + "+1;};", repeated
        if self.chance.random() < 0.5:
            return "show " + text + ";", lambda env: [value(env)]
        name = self.chance.choice(self.names)

        def put(env):
            env[name] = value(env)
            return []
        return name + " =" + self.space() + text + ";" + self.space(), put

    def commands(self, deep):
        parts = [self.command(deep) for _ in range(self.chance.randint(1, 4))]
        return "".join(text for text, _ in parts), lambda env: [number for _, action in parts for number in action(env)]


class BuildTest(unittest.TestCase):
    def good(self, description, code):
        """The code is in good orders and fits the machine."""
        machine = description[6]
        self.assertIsNone(check_list(code, machine[1]))
        for first, end in stretches(code):
            self.assertEqual(best_order(machine, code[first:end]), list(range(end - first)))

    def test_all_fields(self):
        self.assertTrue(fits(CALCULATOR))
        built = build(CALCULATOR, FACTORIAL)
        self.assertIsInstance(built, Built)
        _, grammar, filters, attributes, _, patterns, machine = CALCULATOR
        self.assertEqual(built.tree, parse(grammar, filters, FACTORIAL))
        self.assertEqual(built.known, solve(grammar, attributes, built.tree))
        self.assertEqual(built.result, built.known[((), "out")])
        self.assertEqual(built.result, result_of(CALCULATOR, FACTORIAL))
        self.assertEqual(built.statement, statement_of(CALCULATOR, built.result))
        self.assertTrue(is_statement(built.statement))
        self.assertEqual(built.code, code_of(CALCULATOR, built.statement))
        self.good(CALCULATOR, built.code)
        self.assertEqual(built.image, link([assemble(built.code)]))
        self.assertEqual(image_shows(CALCULATOR, built, 200), [120, 5])
        self.assertEqual(meaning_shows(CALCULATOR, FACTORIAL, 200), [120, 5])

    def test_the_first_tree(self):
        told = read("start a\nrule one a : 'x'\nrule two a : [xy]\nbelow once a out\neq one out (!show (!num 1))\neq two out (!show (!num 2))\n"
                    "cover 1 (num ?n) : (li ?out ?n)\nmachine 2 1 1 1\n")
        self.assertEqual(meaning_shows(told, "x", 9), [1])
        self.assertEqual(meaning_shows(told, "y", 9), [2])
        told = (told[0], told[1], [("first", 1, 0)]) + told[3:]
        self.assertEqual(image_shows(told, build(told, "x"), 9), [2])

    def test_texts_without_a_tree(self):
        for text in ["", "y", "xx"]:
            for call in [build, result_of, read_by, lambda told, given: meaning_shows(told, given, 9)]:
                self.assertRaises(TreeError, call, language("(!skip)"), text)
        self.assertRaises(TreeError, build, CALCULATOR, "show 1")
        self.assertRaises(TreeError, build, CALCULATOR, "if = 1;")
        self.assertRaises(TreeError, build, CALCULATOR, "show 1 < 2 < (3 < 4) < ;")

    def test_faults_of_values(self):
        self.assertRaises(ValueFault, result_of, language("(add 1 \"a\")"), "x")
        self.assertRaises(ValueFault, build, CALCULATOR, "show a+b+c+d+e+f+g;")
        self.assertRaises(CycleError, build, language("(add 1 .out)"), "x")
        told = read("start a\nrule one a : 'x'\nbelow once a out\nbelow most a n\neq one out .n\neq one n (sub 0 1)\nmachine 2 1 1 1\n")
        self.assertRaises(EquationError, build, told, "x")

    def test_statements(self):
        for result, told in [("(!skip)", ("skip",)), ("(!show (!num -5))", ("show", ("num", -5))), ("(!set 15 (!var 0))", ("set", 15, ("var", 0))),
                             ("(!seq (!skip) (!loop (!num 0) (!skip)))", ("seq", ("skip",), ("loop", ("num", 0), ("skip",))))]:
            self.assertEqual(statement_of(language(result), result_of(language(result), "x")), told)

    def test_results_that_are_no_statement(self):
        for result in ["1", "\"skip\"", "(list)", "(list (!skip))", "(!num 1)", "(!show 1)", "(!show (!num \"1\"))", "(!set 16 (!num 1))", "(!set -1 (!num 1))", "(!skip 1)", "(!shows (!num 1))",
                       "(!show (list (!num 1)))", "(!show (!num))", "(!seq (!skip))", "(!show (list \"num\" 1))", "(!show (!num (list)))"]:
            told = language(result)
            self.assertEqual(result_of(told, "x"), result_of(told, "x"))
            self.assertRaises(ValueFault, statement_of, told, result_of(told, "x"))
            self.assertRaises(ValueFault, build, told, "x")
            self.assertRaises(ValueFault, meaning_shows, told, "x", 9)

    def test_deep_results(self):
        deep = ("term", "skip", [])
        for _ in range(99):
            deep = ("term", "seq", [("term", "skip", []), deep])
        statement = statement_of(small_description(rewriting=[]), deep)
        self.assertEqual(run(statement, 1000)[2], 199)
        self.assertRaises(ValueFault, statement_of, small_description(rewriting=[]), ("term", "seq", [deep, deep]))

    def test_rewriting(self):
        told = language("(!twice (!five))", "rewrite (five) (show (num 5))", "rewrite (twice ?x) (seq ?x ?x)", "cover 1 (num ?n) : (li ?out ?n)")
        self.assertEqual(result_of(told, "x"), ("term", "twice", [("term", "five", [])]))
        self.assertEqual(statement_of(told, result_of(told, "x")), ("seq", ("show", ("num", 5)), ("show", ("num", 5))))
        self.assertEqual(image_shows(told, build(told, "x"), 9), [5, 5])
        # A string may stand in the result as long as the rules take it away.
        told = language("(!say \"a\")", "rewrite (say \"a\") (skip)")
        self.assertEqual(build(told, "x").statement, ("skip",))

    def test_rules_that_never_end(self):
        told = language("(!skip)", "rewrite (skip) (skip)")
        for call in [build, lambda told, given: meaning_shows(told, given, 9), lambda told, given: statement_of(told, result_of(told, given))]:
            self.assertRaises(FuelError, call, told, "x")
        self.assertEqual(result_of(told, "x"), ("term", "skip", []))

    def test_no_cover(self):
        told = language("(!show (!num 5))")
        self.assertRaises(CoverError, build, told, "x")
        self.assertRaises(CoverError, code_of, told, ("show", ("num", 5)))
        self.assertEqual(meaning_shows(told, "x", 9), [5])
        self.assertEqual(build(language("(!skip)"), "x").code, [("halt",)])

    def test_code(self):
        _, _, _, _, _, patterns, _ = CALCULATOR
        statement = ("seq", ("set", 0, ("num", 2)), ("show", ("mul", ("var", 0), ("num", 2))))
        self.assertEqual([part[0] for part in code_of(CALCULATOR, statement)], ["li", "st", "ld", "op", "show", "halt"])
        # It is that of the statement by the patterns, allocated, and then in other orders only.
        chance = random.Random(303)
        for _ in range(50):
            machine = ("machine", chance.choice([2, 3, 8]), chance.randint(1, 9), chance.randint(1, 9), chance.randint(1, 9))
            description = small_description(patterns=some_patterns(chance), machine=machine)
            told = some_statement(chance, 3)
            code = code_of(description, told)
            self.good(description, code)
            self.assertTrue(check_schedule(machine, allocate(compiled(description[5], told), machine[1]), code))

    def test_many_values_at_a_time(self):
        # The value of a pattern may need more places than the machine has registers; the rest goes to slots.
        parts = [term("li", hole("t" + str(k)), k) for k in range(40)]
        sums = [op("add", "out", "t0", "t1")] + [op("add", "out", "out", "t" + str(k)) for k in range(2, 40)]
        wide = (1, term("num", 7), parts + sums + [op("sub", "out", "out", "out")] + [term("li", hole("seven"), 7), op("add", "out", "out", "seven")])
        description, result = given(("show", ("num", 7)), [wide], ("machine", 2, 3, 2, 1))
        self.assertTrue(fits(description))
        statement = statement_of(description, result)
        code = code_of(description, statement)
        self.good(description, code)
        self.assertEqual(execute(description[6], link([assemble(code)]), 999)[0], [7])

    def test_too_many_values_at_a_time(self):
        parts = [term("ld", hole("t" + str(k)), k % 16) for k in range(60)]
        sums = [op("sub", "u" + str(k), "t" + str(k), "t" + str(k)) for k in range(60)] + [term("li", hole("out"), 7)]
        wide = (1, term("num", 7), parts + sums)
        description, result = given(("show", ("num", 7)), [wide], ("machine", 8, 1, 1, 1))
        self.assertTrue(fits(description))
        self.assertRaises(SpillError, code_of, description, statement_of(description, result))

    def test_fuel(self):
        built = build(CALCULATOR, FACTORIAL)
        _, _, _, steps = execute(CALCULATOR[6], built.image, 9999)
        self.assertEqual(image_shows(CALCULATOR, built, steps), [120, 5])
        self.assertRaises(FuelError, image_shows, CALCULATOR, built, steps - 1)
        self.assertRaises(FuelError, image_shows, CALCULATOR, built, 0)
        _, _, steps = run(built.statement, 9999)
        self.assertEqual(meaning_shows(CALCULATOR, FACTORIAL, steps), [120, 5])
        self.assertRaises(FuelError, meaning_shows, CALCULATOR, FACTORIAL, steps - 1)
        self.assertRaises(FuelError, meaning_shows, CALCULATOR, "", 0)
        self.assertEqual(meaning_shows(CALCULATOR, "", 1), [])

    def test_statements_that_do_not_end(self):
        text = "n = 0; while 1 { show n; n = n + 1; }; show 9;"
        built = build(CALCULATOR, text)
        self.assertRaises(FuelError, image_shows, CALCULATOR, built, 3000)
        self.assertRaises(FuelError, meaning_shows, CALCULATOR, text, 3000)
        ending, shown = observe_image(CALCULATOR[6], built.image, 3000)
        self.assertEqual((ending, shown), ("fuel", list(range(len(shown)))))
        self.assertGreater(len(shown), 100)

    def test_programs_by_chance(self):
        chance = random.Random(304)
        shown = 0
        for _ in range(150):
            text, action = Python(chance).commands(2)
            numbers = action({})
            if len(text) > 400:
                continue
            shown += len(numbers)
            self.assertEqual(meaning_shows(CALCULATOR, text, 5000), numbers, text)
            built = build(CALCULATOR, text)
            self.good(CALCULATOR, built.code)
            self.assertEqual(image_shows(CALCULATOR, built, 50000), numbers, text)
        self.assertGreater(shown, 50)

    def test_statements_by_chance(self):
        chance = random.Random(305)
        for _ in range(100):
            patterns = some_patterns(chance)
            machine = ("machine", chance.choice([2, 3, 4, 8]), chance.randint(1, 9), chance.randint(1, 9), chance.randint(1, 9))
            statement = some_statement(chance, 4)
            description, result = given(statement, patterns, machine)
            self.assertTrue(fits(description))
            self.assertEqual(statement_of(description, result), statement)
            code = code_of(description, statement)
            self.good(description, code)
            plain = PlainRun(statement, 200)
            ending, shown = observe_image(machine, link([assemble(code)]), 30000)
            if plain.ended:
                self.assertEqual((ending, shown), ("halt", plain.shown))
            else:
                self.assertEqual(shown[:len(plain.shown)], plain.shown)

    def test_long_statements(self):
        text = "".join("show " + "+".join([str(k)] * 20) + ";" for k in range(60))
        built = build(CALCULATOR, text)
        self.assertEqual(image_shows(CALCULATOR, built, 99999), [20 * k for k in range(60)])

    def test_read_by(self):
        told = small_description()
        self.assertRaises(DescriptionError, read_by, language("(!description \"a\" (list) (list (!first \"one\" \"one\")) (list) (list) (list) (list) (list) (list 2 1 1 1))"), "x")
        self.assertRaises(ValueFault, read_by, language("(at \"\" 0)"), "x")
        self.assertEqual(read_by(language("(!description $ (list (!rule \"one\" \"a\" (list))) (list) (list) (list) (list) (list) (list) (list 2 1 1 1))"), "x"),
                         ("description", ("grammar", "x", [("rule", "a", "one", [])]), [], ("attributes", [], [], []), [], [], ("machine", 2, 1, 1, 1)))
        self.assertEqual(as_value(told)[1], "description")

    def test_arguments_stay_and_results_are_new(self):
        kept = copy.deepcopy(CALCULATOR)
        one = build(CALCULATOR, FACTORIAL)
        before = copy.deepcopy((one.code, one.image, one.known))
        one.code.clear()
        one.image.clear()
        one.known.clear()
        two = build(CALCULATOR, FACTORIAL)
        self.assertEqual((two.code, two.image, two.known), before)
        image_shows(CALCULATOR, two, 999).clear()
        self.assertEqual(image_shows(CALCULATOR, two, 999), [120, 5])
        code_of(CALCULATOR, two.statement).clear()
        self.assertEqual(code_of(CALCULATOR, two.statement), two.code)
        self.assertEqual(CALCULATOR, kept)


if __name__ == "__main__":
    unittest.main()
