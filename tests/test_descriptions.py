"""Descriptions and how they are read: points 29.1 and 29.5; the form of their lines, 29.2 and 29.3."""

import copy
import random
import unittest

from covering import BASE
from describing import CHARS, FULL, LANGUAGE, plain_text, small_description, some_description
from scribeself.descriptions import fits, read, read_checked
from scribeself.errors import DescriptionError
from scribeself.forests import count
from scribeself.selfmade import self_description

HEAD = "start a\nrule one a : 'x'\nrule two b :\n"
END = "machine 2 1 1 1\n"
# A line that may be of each kind, in the order of the kinds.
LINES = ["first one two\n", "below once a out\n", "above all b in\n", "eq one out 1\n", "rewrite (a) 1\n", "cover 1 ?a :\n"]


class FitsTest(unittest.TestCase):
    def test_what_fits(self):
        self.assertIs(fits(small_description()), True)
        self.assertIs(fits(read(LANGUAGE)), True)
        self.assertIs(fits(small_description(filters=[], rewriting=[], patterns=[])), True)

    def test_grammars(self):
        rules = small_description()[1][2]
        for wrong in [("grammar", "b", rules), ("grammar", "a", rules[:1] + [("rule", "a", "more", [])]), ("grammar", "a", rules[:1] + [("rule", "a", "One", [])]),
                      ("grammar", "a", [("rule", "a", "more", [("lit", ""), ("nt", "a")]), rules[1]]), ("grammar", "a", [rules[0], ("rule", "a", "one", [("nt", "c")])]),
                      ("grammar", "a", [("rule", "a", "more", [("class", ""), ("nt", "a")]), rules[1]]),
                      ("grammar", "a", [("rule", "a", "more", [("nt", "a"), ("nt", "a")]), rules[1]]), ("grammar", "a", [])]:
            self.assertIs(fits(small_description(grammar=wrong)), False, wrong)

    def test_filters(self):
        for wrong in [("first", 0, 0), ("first", 0, 2), ("under", 0, 0, 1), ("under", 0, 1, 5), ("stop", "b", "x"), ("bar", "b", [])]:
            self.assertIs(fits(small_description(filters=[wrong])), False, wrong)
        for fine in [("first", 0, 1), ("under", 0, 1, 1), ("stop", "a", "x"), ("bar", "a", [])]:
            self.assertIs(fits(small_description(filters=[fine])), True, fine)

    def test_attributes(self):
        _, below, above, equations = small_description()[3]
        for wrong in [("attributes", below, above, equations[:1]), ("attributes", below, above, equations + equations[:1]),
                      ("attributes", below + [("b", "n", "once")], above, equations), ("attributes", below, [("a", "n", "once")], equations),
                      ("attributes", [("a", "out", "twice")], above, equations), ("attributes", below, above, [equations[0], ("eq", 1, ("own", "out"), ("own", "n"))]),
                      ("attributes", below, above, [equations[0], ("eq", 7, ("own", "out"), ("val", 0))])]:
            self.assertIs(fits(small_description(attributes=wrong)), False, wrong)

    def test_the_attribute_out(self):
        attributes = small_description()[3]
        for kind, fine in [("once", True), ("most", False), ("all", False)]:
            self.assertIs(fits(small_description(attributes=("attributes", [("a", "out", kind)]) + attributes[2:])), fine)
        other = [(word, rule, ("own", "val"), ("val", 0)) for word, rule, _, _ in attributes[3]]
        self.assertIs(fits(small_description(attributes=("attributes", [("a", "val", "once")], [], other))), False)
        self.assertIs(fits(small_description(attributes=("attributes", [], [], []))), False)
        # The attribute of another name does not count.
        rules = small_description()[1][2] + [("rule", "b", "two", [])]
        only = ("attributes", [("b", "out", "once")], [], [("eq", 2, ("own", "out"), ("val", 0))])
        self.assertIs(fits(small_description(grammar=("grammar", "a", rules), attributes=only)), False)
        self.assertIs(fits(small_description(grammar=("grammar", "b", rules), attributes=only)), True)

    def test_rewriting(self):
        for wrong in [(("hole", "x"), 1), (1, 2), ("a", "b"), (("term", "f", []), ("hole", "x"))]:
            self.assertIs(fits(small_description(rewriting=[wrong])), False, wrong)

    def test_patterns(self):
        for wrong in [(-1,) + BASE[0][1:], (1, ("hole", "a"), []), (1, ("term", "num", [("hole", "n")]), []), BASE[2][:2] + BASE[3][2:], (1, ("term", "f", []), [])]:
            self.assertIs(fits(small_description(patterns=BASE + [wrong])), False, wrong)

    def test_machines(self):
        for wrong in [("machine", 1, 1, 1, 1), ("machine", 9, 1, 1, 1), ("machine", 2, 0, 1, 1), ("machine", 2, 1, 10, 1), ("machine", 2, 1, 1, 0)]:
            self.assertIs(fits(small_description(machine=wrong)), False, wrong)
        self.assertIs(fits(small_description(machine=("machine", 8, 9, 9, 9))), True)


class ReadTest(unittest.TestCase):
    def test_each_line(self):
        rules = [("rule", "a", "one", [("lit", "x'y"), ("class", "\"\\]ab"), ("run", "0123456789"), ("nt", "b")]), ("rule", "b", "two", []),
                 ("rule", "a", "three", [("nt", "a"), ("nt", "b"), ("lit", "x")])]
        filters = [("first", 0, 2), ("under", 2, 0, 0), ("stop", "a", "}\n"), ("bar", "b", ["x", "", "y\n"])]
        equations = [("eq", 0, ("own", "out"), ("call", "cat", [("text",), ("if", ("own", "out"), ("kid", 3, "kinds"), ("call", "make foo", [("val", 12), ("val", -3), ("kidtext", 1)]))])),
                     ("eq", 0, ("kid", 3, "in"), ("val", "a\"b")), ("eq", 1, ("own", "kinds"), ("call", "list", []))]
        attributes = ("attributes", [("a", "out", "once"), ("b", "kinds", "all")], [("b", "in", "most")], equations)
        rewriting = [(("term", "a", [("hole", "x"), 1, "t"]), ("term", "b", [("hole", "x"), -1, ("term", "c", [])])), (5, "five")]
        patterns = [(3, ("term", "num", [("hole", "n")]), [("term", "li", [("hole", "out"), ("hole", "n")]), ("term", "mov", [("hole", "a"), ("hole", "b")])]), (0, ("hole", "x"), [])]
        self.assertEqual(read(FULL), ("description", ("grammar", "a", rules), filters, attributes, rewriting, patterns, ("machine", 2, 1, 10, 999999999)))

    def test_the_least_text(self):
        self.assertEqual(read("start a\nmachine 0 0 0 0\n"), ("description", ("grammar", "a", []), [], ("attributes", [], [], []), [], [], ("machine", 0, 0, 0, 0)))

    def test_numbers(self):
        told = read(HEAD + "under one 007 two\neq one out 000000000\ndown one 00 in 000000012.n\neq two out $01\neq two out -0\neq two out -000000003\n"
                    "rewrite 00 -00\ncover 000000010 01 : (a 01 -02)\nmachine 02 000000001 01 01\n")
        self.assertEqual(told[2], [("under", 0, 7, 1)])
        self.assertEqual([one[3] for one in told[3][3]], [("val", 0), ("kid", 12, "n"), ("kidtext", 1), ("val", 0), ("val", -3)])
        self.assertEqual(told[3][3][1][2], ("kid", 0, "in"))
        self.assertEqual(told[4:], ([(0, 0)], [(10, 1, [("term", "a", [1, -2])])], ("machine", 2, 1, 1, 1)))

    def test_names(self):
        name = "a" + "b9" * 30
        told = read("start " + name + "\nrule " + name + " " + name + " : " + name + "\nfirst " + name + " " + name + "\nbelow once " + name + " " + name + "\neq " + name + " " + name
                    + " (" + name + " ." + name + " 3." + name + " (!" + name + "))\nrewrite ?" + name + " (" + name + ")\n" + END)
        self.assertEqual(told[1], ("grammar", name, [("rule", name, name, [("nt", name)])]))
        self.assertEqual(told[3][3][0][3], ("call", name, [("own", name), ("kid", 3, name), ("call", "make " + name, [])]))
        # The words of lines and kinds may be names, too.
        told = read("start rule\nrule eq rule : first machine\nbar below\nbelow all start all\neq eq down (if (start) (machine))\n" + END)
        self.assertEqual((told[1], told[2], told[3][1]), (("grammar", "rule", [("rule", "rule", "eq", [("nt", "first"), ("nt", "machine")])]), [("bar", "below", [])],
                                                          [("start", "all", "all")]))

    def test_labels_that_several_rules_have(self):
        told = read("start a\nrule one a :\nrule two a :\nrule two b :\nrule one b :\nfirst two one\nunder one 0 two\neq two out 1\ndown one 0 n 1\n" + END)
        self.assertEqual(told[2], [("first", 1, 0), ("under", 0, 0, 1)])
        self.assertEqual([one[1] for one in told[3][3]], [1, 0])

    def test_texts_by_chance(self):
        chance = random.Random(295)
        for _ in range(300):
            told = some_description(chance)
            self.assertEqual(read(plain_text(told)), told)

    def test_checked(self):
        self.assertEqual(read_checked(LANGUAGE), read(LANGUAGE))
        with self.assertRaises(DescriptionError) as caught:
            read_checked(FULL)
        self.assertEqual(caught.exception.line, 0)
        with self.assertRaises(DescriptionError) as caught:
            read_checked(FULL + "x")
        self.assertEqual(caught.exception.line, FULL.count("\n") + 1)

    def test_results_are_new(self):
        one = read(FULL)
        kept = copy.deepcopy(one)
        for part in [one[1][2][0][3], one[1][2], one[2][3][2], one[2], one[3][1], one[3][3], one[4], one[5]]:
            part.clear()
        self.assertEqual(read(FULL), kept)


class FaultsTest(unittest.TestCase):
    def line(self, text):
        with self.assertRaises(DescriptionError) as caught:
            read(text)
        self.assertIsInstance(caught.exception.line, int)
        return caught.exception.line

    def wrong(self, lines, before=HEAD, behind=END):
        """Each of some lines does not fit where it stands."""
        for line in lines:
            self.assertEqual(self.line(before + line + behind), before.count("\n") + 1, line)

    def test_spaces(self):
        for line in FULL.split("\n")[:-1]:
            at = FULL.index(line + "\n")
            number = FULL[:at].count("\n") + 1
            for k, char in enumerate(line):
                if char == " " and line[:k].count("'") % 2 == 0 and line[:k].count('"') % 2 == 0:
                    self.assertEqual(self.line(FULL[:at + k] + " " + FULL[at + k:]), number)
                    self.assertEqual(self.line(FULL[:at + k] + "\t" + FULL[at + k + 1:]), number)
            self.assertEqual(self.line(FULL[:at + len(line)] + " " + FULL[at + len(line):]), number)
            self.assertEqual(self.line(FULL[:at] + " " + FULL[at:]), number)
            self.assertEqual(self.line(FULL[:at] + "\n" + FULL[at:]), number)

    def test_lines_out_of_order(self):
        for k, one in enumerate(LINES):
            for other in LINES[k + 1:]:
                self.assertEqual(read(HEAD + one + other + END), read(HEAD + one + other + END))
                self.assertEqual(self.line(HEAD + other + one + END), 5)
            self.assertEqual(self.line(HEAD + one + "rule three a :\n" + END), 5)
            self.assertEqual(self.line(HEAD + END + one), 5)
            self.assertEqual(self.line(one + HEAD + END), 1)
        self.assertEqual(self.line(END), 1)
        self.assertEqual(self.line("start a\nstart a\n" + END), 2)
        self.assertEqual(self.line(HEAD + END + END), 5)

    def test_where_the_text_ends(self):
        self.assertEqual(self.line(""), 1)
        self.assertEqual(self.line("start"), 1)
        self.assertEqual(self.line("start a"), 1)
        self.assertEqual(self.line("start a\n"), 2)
        self.assertEqual(self.line(HEAD), 4)
        self.assertEqual(self.line(HEAD + "machine 2 1 1"), 4)
        self.assertEqual(self.line(HEAD + END[:-1]), 4)
        self.assertEqual(self.line(HEAD + END + "\n"), 5)
        self.assertEqual(self.line(HEAD + END + "x"), 5)
        self.assertEqual(self.line(HEAD + END + END + "x"), 5)
        for k in range(len(FULL)):
            self.assertEqual(self.line(FULL[:k]), FULL[:k].count("\n") + 1)

    def test_unknown_letters_and_kinds(self):
        self.wrong(["rules three a :\n", "Rule three a :\n", "filter one two\n", "firs one two\n", "first\n", "below every a out\n", "below a out\n", "below once\n", "above b in\n", "above a once in\n",
                    "eq one Out 1\n", "eq one 1out 1\n", "x\n"])
        self.wrong(["start A\n", "start 1\n", "start a b\n", "start \n", "begin a\n"], "", "rule one a :\n" + END)
        self.wrong(["rule one a 'x'\n", "rule one a\n", "rule one :\n", "rule one a:\n", "rule one a : B\n", "rule one a : 1\n", "rule one a : (x)\n"], "start a\n")
        self.wrong(["machine 2 1 1\n", "machine 2 1 1 1 1\n", "machine 2 1 1 a\n", "machine 2 1 -1 1\n", "machine\n"], HEAD, "")

    def test_numbers(self):
        self.wrong(["eq one out 1234567890\n", "eq one out 0000000001\n", "eq one out -1234567890\n", "eq one out --1\n", "eq one out - 1\n", "eq one out -\n", "eq one out 1a\n",
                    "eq one out +1\n", "under one -1 two\n", "under one 0000000000 two\n", "down one -1 in 1\n", "down one a in 1\n", "eq one out $1234567890\n", "eq one out -1.n\n",
                    "eq one out $-1\n", "rewrite 1234567890 1\n", "cover -1 (a) :\n", "cover 1234567890 (a) :\n", "cover a (a) :\n"])
        self.wrong(["machine 1234567890 1 1 1\n", "machine 2 1 1 0000000001\n"], HEAD, "")

    def test_quotes(self):
        self.wrong(["bar a 'x\n", "bar a x\n", "bar a \"x\"\n", "bar a 'x' 'y\n", "bar a 'x''y'\n", "stop a [x\n", "stop a x\n", "stop a {x}\n", "stop a [x] [y]\n", "stop a\n",
                    "eq one out \"x\n", "eq one out 'x'\n", "eq one out [x]\n"])
        self.wrong(["rule three a : 'x\n", "rule three a : [x\n", "rule three a : {x\n", "rule three a : {x]\n", "rule three a : 'x\"\n", "rule three a : \"x\"\n", "rule three a : 'x'b\n"])

    def test_signs(self):
        for text in ["\\", "\\a", "\\N", "\\ ", "\\0", "\\[", "\\{", "\\\n", "x\ny", "%", "\t", "\x7f", "\u00e9"] + list("'\"]}"):
            for around in ["''", "[]", "{}"]:
                if text != around[1]:
                    self.wrong(["rule three a : " + around[0] + text + around[1] + "\n"])
            if text != '"':
                self.wrong(["eq one out \"" + text + "\"\n", "rewrite \"" + text + "\" 1\n"])
        for around in ["''", "[]", "{}"]:
            told = read(HEAD + "rule three a : " + around[0] + "[{a\\\\\\'\\\"\\]\\}\\n" + around[1] + "\n" + END)
            self.assertEqual(told[1][2][2][3][0][1], "[{a\\'\"]}\n")

    def test_expressions(self):
        self.wrong(["eq one out " + part + "\n" for part in
                    ["", "a", "()", "(", "(a", "(a 1", "(a 1))", "(a  1)", "(a 1 )", "( a 1)", "(1)", "(a,1)", "(? 1 2)", "(? 1 2 3 4)", "(?)", "(?1 2 3)", "(! a)", "(!)", "(!a 1",
                     "(a (b 1)", ".", ".1", "1.", "1.1", "1..a", "$a", "$.a", "?a", "(a ?b)", "1 2", "\"a\"1", "(a\"b\")", "((a) 1)", ")"]])
        for part in ["(a)", "(!a)", "(? 1 2 3)", "(a (b (c) 1) $ $1 1.a .a)"]:
            read(HEAD + "eq one out " + part + "\n" + END)

    def test_patterns(self):
        for line in ["rewrite # 1\n", "rewrite (a) #\n", "cover 1 # :\n", "cover 1 (a) : (b #)\n"]:
            self.wrong([line.replace("#", part) for part in ["", "a", "()", "(a", "(a  1)", "(1)", "?", "?1", "?A", "? a", ".a", "$", "(? 1 2 3)", "(!a)", "'x'", "(a 1 )", "1.a", "(?a)"]])
        self.wrong(["rewrite (a)\n", "rewrite (a) (b) (c)\n", "rewrite (a)(b)\n", "cover 1 (a)\n", "cover 1 (a) :(b)\n", "cover 1 (a) : ?b\n", "cover 1 (a) : 1\n", "cover 1 (a) : \"b\"\n",
                    "cover 1 (a) : (b)(c)\n", "cover 1 (a) : b\n", "cover (a) :\n"])

    def test_labels(self):
        self.wrong(["first one four\n", "first four one\n", "under four 0 one\n", "under one 0 four\n"], behind="first one two\n" + END)
        self.wrong(["eq four out 1\n", "down four 0 in 1\n", "eq a out 1\n"], behind="eq one out 1\n" + END)
        # A label counts where it stands, whatever is wrong behind it; what is wrong ahead of it counts first.
        self.wrong(["first one four\n", "under four 0 one\n"], behind="first one two \n")
        self.wrong(["eq four out 1\n", "down four 0 in 1\n"], behind="eq\n" + END)
        self.wrong(["eq four out (\n", "down four x\n", "first four  \n"])
        self.wrong(["first one two \n", "bar a x\n"], behind="eq four out 1\n" + END)
        self.wrong(["first four one\n"], behind="eq four out 1\n" + END)
        self.wrong(["first four one\n"], behind="rule four a :\n" + END)

    def test_lines_by_chance(self):
        """The first line with which no text begins, or behind which the text ends too early, as the grammar of descriptions tells."""
        chance = random.Random(2951)
        told = {True: 0, False: 0}
        for _ in range(250):
            text = FULL
            for _ in range(chance.choice([1, 1, 2, 3])):
                text = changed(chance, text)
            wanted = wanted_line(text)
            told[wanted is None] += 1
            if wanted is None:
                read(text)
            else:
                self.assertEqual(self.line(text), wanted, text)
        self.assertGreater(min(told.values()), 15)


def changed(chance, text):
    """A text with a small change at a place by chance."""
    at, behind = sorted([chance.randint(0, len(text)), chance.randint(0, len(text))])
    lines = text.split("\n")
    k = chance.randrange(len(lines))
    other = list(lines)
    other.insert(chance.randint(0, len(lines)), lines[k])
    words = ["0", "00", "123456789", "(a)", "(? 1 2 3)", " 1", " .a", " ?a", "\\n", "'x'", " two", "one", "\n"]
    return chance.choice([text[:at] + text[at + 1:], text[:at] + chance.choice(CHARS + "%") + text[at:], text[:at] + chance.choice(CHARS) + text[at + 1:],
                          "\n".join(lines[:k] + lines[k + 1:]), "\n".join(other), text[:at] + text[behind:behind + chance.randrange(9)] + text[at:],
                          text[:at] + chance.choice(words) + text[at:], text[:at] + chance.choice(words) + text[at:], text[:at] if chance.random() < 0.3 else text])


def wanted_line(text):
    """The number of the line that read must tell, or None: found by whole lines, with the grammar of the description of descriptions."""
    _, grammar, filters, _, _, _, _ = self_description()

    def accepted(told):
        return "%" not in told and count(grammar, filters, told) > 0

    labels = []
    lines = text.split("\n")
    for k, line in enumerate(lines[:-1]):
        told = "".join(one + "\n" for one in lines[:k + 1])
        if not accepted(told) and not accepted(told + END):
            return k + 1
        words = line.split(" ")
        if words[0] == "rule":
            labels.append(words[1])
        if not all(words[at] in labels for at in {"first": [1, 2], "under": [1, 3], "eq": [1], "down": [1]}.get(words[0], [])):
            return k + 1
    return None if lines[-1] == "" and accepted(text) else len(lines)


if __name__ == "__main__":
    unittest.main()
