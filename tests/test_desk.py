"""The desk: points 32.1 to 32.5."""

import copy
import random
import unittest

from describing import LANGUAGE, plain_quoted
from scribeself.building import build, image_shows, meaning_shows
from scribeself.descriptions import read, read_checked
from scribeself.desk import Desk, session
from scribeself.edits import applied, inverse_of
from scribeself.errors import EditError, ScribeError, TreeError
from scribeself.forests import count, parse, tree
from scribeself.machines import format_instruction
from scribeself.mends import distance, mend
from scribeself.records import again, recorded
from scribeself.reuse import kept
from scribeself.selfmade import self_description, self_text
from scribeself.solving import solve
from scribeself.trees import nodes, subtree

COUNT = read("start a\nrule more a : 'x' a\nrule one a :\nbelow once a out\neq more out (add 1 1.out)\neq one out 0\nmachine 2 1 1 1\n")

# Sums with two trees for three numbers; values of each kind, and some that are not there.
SUMS = r"""start e
rule sum e : e '+' e
rule digit e : [0123456789]
rule odd e : '!'
rule cycle e : '?'
rule fault e : '#'
rule text e : '\"' t '\"'
rule none t :
rule some t : [\n\"\'abc] t
below once e out
below once e size
below most e deep
below all e all
below once t word
above once t deep
eq sum out (add 0.out 2.out)
eq sum size (len $)
eq sum deep (add 1 0.deep)
eq sum all (join 0.all 2.all)
eq digit out (number $)
eq digit size 1
eq digit deep 0
eq digit all (list (number $) "d")
eq odd out (list "a\"b" -3 (list) (!t (list 1) (!u)))
eq odd size 1
eq odd deep (sub 0 1)
eq odd all (list)
eq cycle out .out
eq cycle size 1
eq cycle deep 0
eq cycle all (list)
eq fault out (at "" 0)
eq fault size 1
eq fault deep 0
eq fault all (list)
eq text out 1.word
eq text size (len $1)
eq text deep 0
eq text all (list $1)
down text 1 deep 1
eq none word ""
eq some word (cat $0 1.word)
down some 1 deep (add .deep 1)
machine 2 1 1 1
"""

# What is shown is told by letters: statements, faults of building, and programs that do not end.
PROGRAMS = """start s
rule seq s : p s
rule none s :
rule show p : [0123456789]
rule loop p : '(' s ')'
rule five p : 'f'
rule endless p : 'e'
rule nothing p : 'n'
rule uncovered p : 'u'
rule many p : 'm'
below once s out
below once p out
eq seq out (!seq 0.out 1.out)
eq none out (!skip)
eq show out (!show (!num (number $0)))
eq loop out (!loop (!num 1) 1.out)
eq five out (!five)
eq endless out (!endless)
eq nothing out "text"
eq uncovered out (!show (!var 3))
eq many out (!show (!sub (!num 1) (!num 2)))
rewrite (five) (seq (show (num 5)) (show (add (num 5) (num 5))))
rewrite (endless) (endless)
cover 1 (num ?n) : (li ?out ?n)
cover 1 (add ?a ?b) : (op "add" ?out ?a ?b)
cover 9 (sub (num ?a) (num ?b)) : @(op "sub" ?out ?t0 ?t1)
machine 8 2 2 2
"""
WIDE = "".join("(ld ?t%d %d) " % (k, k % 16) for k in range(2, 60)) + "(li ?t0 ?a) (li ?t1 ?b) " + "".join("(op \"add\" ?u%d ?t%d ?t%d) " % (k, k, k) for k in range(2, 60))
PROGRAMS = PROGRAMS.replace("@", WIDE)


def plain_tree(part, labels):
    return "'" + plain_quoted(part) + "'" if isinstance(part, str) else "(" + " ".join([labels[part[1]]] + [plain_tree(kid, labels) for kid in part[2]]) + ")"


def plain_value(value):
    if isinstance(value, list):
        return "[" + " ".join(map(plain_value, value)) + "]"
    if isinstance(value, tuple):
        return "(" + " ".join([value[1]] + list(map(plain_value, value[2]))) + ")"
    return '"' + plain_quoted(value) + '"' if isinstance(value, str) else str(value)


def plain_tuple(part):
    return "(" + " ".join([part[0]] + list(map(plain_tuple, part[1:]))) + ")" if isinstance(part, tuple) else str(part)


def plain_change(old, new):
    """The path at which trees that differ are replaced."""
    differing = [k for k, (one, other) in enumerate(zip(old[2], new[2])) if one != other]
    if old[1] != new[1] or len(differing) != 1 or isinstance(old[2][differing[0]], str):
        return ()
    return (differing[0],) + plain_change(old[2][differing[0]], new[2][differing[0]])


class Afresh:
    """A desk that does everything afresh; only for `computed` it keeps a record."""

    def __init__(self, description, text):
        self.description, self.text, self.done, self.undone, self.change = description, text, [], [], None
        self.record, self.computed = self.values(None)

    def tree(self, text):
        try:
            return parse(self.description[1], self.description[2], text)
        except TreeError:
            return None

    def values(self, before):
        now = self.tree(self.text)
        try:
            if before is None or now is None:
                made = None if now is None else recorded(self.description[1], self.description[3], now)
            elif before.tree == now:
                return before, 0
            else:
                path = plain_change(before.tree, now)
                made = again(before, path, subtree(now, path))
        except ScribeError:
            return None, None
        return made, made and len(made.computed)

    def edited(self, edit):
        self.change = (self.text, edit)
        self.text = applied(self.text, edit)
        self.record, self.computed = self.values(self.record)
        return ["edited %d %d" % (len(self.text), len(self.text) + 1 - edit[0])]

    def edit(self, edit):
        if len(applied(self.text, edit)) > 6000:
            raise EditError("too long")
        self.done.append((edit, inverse_of(self.text, edit)))
        self.undone = []
        return self.edited(edit)

    def undo(self):
        if not self.done:
            return ["nothing"]
        self.undone.append(self.done.pop())
        return self.edited(self.undone[-1][1])

    def redo(self):
        if not self.undone:
            return ["nothing"]
        self.done.append(self.undone.pop())
        return self.edited(self.done[-1][0])

    def kept(self):
        if self.change is None:
            return ["nothing"]
        old, new = self.tree(self.change[0]), self.tree(self.text)
        if old is None or new is None:
            return ["error TreeError"]
        paths = [path for _, path in kept(old, new, self.change[1])]
        below = [one for one, _, _, _ in nodes(new) if any(one[:len(path)] == path for path in paths)]
        return ["kept %d of %d" % (len(below), len(nodes(new)))]

    def value(self, path, attribute):
        known = solve(self.description[1], self.description[3], parse(self.description[1], self.description[2], self.text))
        return ["value " + plain_value(known[(path, attribute)])] if (path, attribute) in known else ["nothing"]

    def told(self, name, words):
        _, grammar, filters, _, _, _, _ = self.description
        text = self.text
        actions = {"edit": lambda: self.edit(tuple(words)), "undo": self.undo, "redo": self.redo, "text": lambda: ["text '" + plain_quoted(text) + "'"],
                   "trees": lambda: ["trees " + str(count(grammar, filters, text))], "kept": self.kept, "value": lambda: self.value(*words),
                   "tree": lambda: [plain_tree(tree(grammar, filters, text, words[0]), [rule[2] for rule in grammar[2]])], "result": lambda: self.value((), "out"),
                   "computed": lambda: self.value((), "out") and ["computed " + str(self.computed)],
                   "statement": lambda: ["statement " + plain_tuple(build(self.description, text).statement)],
                   "code": lambda: [format_instruction(part) for part in build(self.description, text).code],
                   "run": lambda: [" ".join(map(str, ["shows"] + image_shows(self.description, build(self.description, text), words[0])))],
                   "mean": lambda: [" ".join(map(str, ["shows"] + meaning_shows(self.description, text, words[0])))],
                   "mend": lambda: ["mend %d '%s'" % (distance(grammar, text), plain_quoted(mend(grammar, text)[1]))]}
        try:
            return actions[name]()
        except ScribeError as error:
            return ["error " + type(error).__name__]


def line_of(name, words):
    if name == "edit":
        return "edit %d %d '%s'" % (words[0], words[1], plain_quoted(words[2]))
    if name == "value":
        return "value " + (".".join(map(str, words[0])) or "-") + " " + words[1]
    return " ".join([name] + [str(word) for word in words])


class DeskTest(unittest.TestCase):
    def gives(self, description, text, *pairs):
        """Each command of the pairs gives the lines of its pair, one after the other on one desk."""
        desk = Desk(description, text)
        for line, told in pairs:
            self.assertEqual(desk.command(line), [told] if isinstance(told, str) else told, line)
        lines = [line for line, _ in pairs]
        self.assertEqual(session(description, text, lines), [one for _, told in pairs for one in ([told] if isinstance(told, str) else told)])

    def test_example(self):
        self.assertEqual(session(COUNT, "xx", ["result", "edit 2 0 'x'", "result", "kept", "undo", "tree 0"]),
                         ["value 2", "edited 3 2", "value 3", "kept 0 of 4", "edited 2 1", "(more 'x' (more 'x' (one)))"])
        self.assertEqual(session(COUNT, "xx", []), [])

    def test_commands_that_are_none(self):
        for line in ["", " ", "text ", " text", "text  ", "Text", "texts", "tex", "trees 1", "tree", "tree -1", "tree 1234567890", "tree 0000000000", "tree a", "tree 0 0", "tree  0", "edit",
                     "edit 0 0", "edit 0 0 x", "edit 0 0 'x", "edit 0 0 x'", "edit 0 0 'x' ", "edit 0 0  'x'", "edit  0 0 'x'", "edit 0  0 'x'", "edit -1 0 'x'", "edit 0 -1 'x'",
                     "edit 1234567890 0 'x'", "edit 0 1234567890 'x'", "edit 0 0 ''x'", "edit 0 0 'x\"'", "edit 0 0 ']'", "edit 0 0 '}'", "edit 0 0 '\\x'", "edit 0 0 '\\'", "edit 0 0 '%'",
                     "edit 0 0 \"x\"", "edit 0 0", "edit 0 'x'", "edit 0 0 'x' 'y'", "undo 1", "redo ''", "kept 0", "value", "value -", "value - ", "value - Out", "value - 1a", "value out", "value  - out",
                     "value .0 out", "value 0. out", "value 0..1 out", "value 1234567890 out", "value -1 out", "value -.1 out", "value - out x", "value 0.1234567890 out", "result -", "result out",
                     "computed 1", "statement 1", "code 1", "run", "run -1", "run 1234567890", "run a", "mean", "mean 1 1", "mend 1", "mend ''", "nothing", "error line"]:
            self.gives(COUNT, "xx", (line, "error line"))
        desk = Desk(COUNT, "xx")
        self.assertEqual([desk.command(line) for line in ["edit 0 0 '%'", "kept", "text"]], [["error line"], ["nothing"], ["text 'xx'"]])

    def test_words(self):
        self.gives(COUNT, "xx", ("tree 000000000", "(more 'x' (more 'x' (one)))"), ("value 001 out", "value 1"), ("value 1.000000001 out", "value 0"), ("value - out", "value 2"),
                   ("edit 00 000000001 ''", "edited 1 2"), ("edit 1 0 ''", "edited 1 1"), ("value - outoutoutoutoutoutoutout1", "nothing"), ("value 999999999 out", "nothing"))

    def test_edits(self):
        self.gives(COUNT, "xx", ("edit 3 0 'x'", "error EditError"), ("edit 0 3 'x'", "error EditError"), ("edit 2 1 ''", "error EditError"), ("text", "text 'xx'"), ("undo", "nothing"),
                   ("kept", "nothing"), ("edit 1 1 'xxx'", "edited 4 4"), ("text", "text 'xxxx'"), ("edit 999999999 0 ''", "error EditError"), ("undo", "edited 2 2"), ("redo", "edited 4 4"),
                   ("redo", "nothing"), ("undo", "edited 2 2"), ("edit 5 0 ''", "error EditError"), ("redo", "edited 4 4"), ("undo", "edited 2 2"), ("undo", "nothing"),
                   ("edit 0 0 ''", "edited 2 3"), ("redo", "nothing"), ("undo", "edited 2 3"))

    def test_undo_and_redo(self):
        self.gives(COUNT, "", ("edit 0 0 'a'", "edited 1 2"), ("edit 1 0 'b'", "edited 2 2"), ("edit 0 1 'cd'", "edited 3 4"), ("text", "text 'cdb'"), ("undo", "edited 2 3"),
                   ("text", "text 'ab'"), ("undo", "edited 1 1"), ("text", "text 'a'"), ("redo", "edited 2 2"), ("text", "text 'ab'"), ("redo", "edited 3 4"), ("text", "text 'cdb'"),
                   ("redo", "nothing"), ("undo", "edited 2 3"), ("undo", "edited 1 1"), ("edit 1 0 'e'", "edited 2 2"), ("redo", "nothing"), ("undo", "edited 1 1"), ("undo", "edited 0 1"),
                   ("undo", "nothing"), ("redo", "edited 1 2"), ("redo", "edited 2 2"), ("text", "text 'ae'"))

    def test_long_texts(self):
        told = read("start a\nrule one a : {x}\nbelow once a out\neq one out (len $)\nmachine 2 1 1 1\n")
        self.gives(told, "x" * 5999, ("edit 0 0 'xx'", "error EditError"), ("result", "value 5999"), ("edit 5999 0 'x'", "edited 6000 2"), ("result", "value 6000"),
                   ("edit 0 0 'x'", "error EditError"), ("edit 0 1 'xx'", "error EditError"), ("edit 0 1 'x'", "edited 6000 6001"), ("undo", "edited 6000 6001"), ("undo", "edited 5999 1"),
                   ("redo", "edited 6000 2"), ("result", "value 6000"))

    def test_texts(self):
        self.gives(COUNT, "\n\\'\"]}[{ ~", ("text", "text '\\n\\\\\\'\\\"\\]\\}[{ ~'"), ("trees", "trees 0"))
        self.gives(COUNT, "", ("edit 0 0 '\\n\\\\\\'\\\"\\]\\}[{ ~'", "edited 10 11"), ("text", "text '\\n\\\\\\'\\\"\\]\\}[{ ~'"), ("edit 0 10 ''", "edited 0 1"), ("text", "text ''"))

    def test_trees(self):
        told = read_checked(SUMS)
        self.gives(told, "1+2+3", ("trees", "trees 2"), ("tree 0", "(sum (digit '1') '+' (sum (digit '2') '+' (digit '3')))"),
                   ("tree 1", "(sum (sum (digit '1') '+' (digit '2')) '+' (digit '3'))"), ("tree 2", "error TreeError"), ("tree 999999999", "error TreeError"),
                   ("edit 5 0 '+4'", "edited 7 3"), ("trees", "trees 5"), ("edit 5 2 '+'", "edited 6 2"), ("trees", "trees 0"), ("tree 0", "error TreeError"))
        self.gives(told, "\"a\"\n'\"", ("tree 0", "(text '\\\"' (some 'a' (some '\\\"' (some '\\n' (some '\\'' (none))))) '\\\"')"), ("trees", "trees 1"))
        self.gives(told, "\"\"", ("tree 0", "(text '\\\"' (none) '\\\"')"))

    def test_kept(self):
        told = read_checked(SUMS)
        self.gives(told, "1+2", ("kept", "nothing"), ("edit 3 0 '+3'", "edited 5 3"), ("kept", "kept 2 of 5"), ("undo", "edited 3 1"), ("kept", "kept 2 of 3"), ("edit 0 1 '7'", "edited 3 4"),
                   ("kept", "kept 1 of 3"), ("edit 0 0 ''", "edited 3 4"), ("kept", "kept 3 of 3"), ("edit 0 1 'a'", "edited 3 4"), ("kept", "error TreeError"), ("text", "text 'a+2'"),
                   ("edit 0 1 '8'", "edited 3 4"), ("kept", "error TreeError"), ("undo", "edited 3 4"), ("kept", "error TreeError"), ("redo", "edited 3 4"), ("kept", "error TreeError"),
                   ("edit 9 9 ''", "error EditError"), ("kept", "error TreeError"), ("edit 3 0 ''", "edited 3 1"), ("kept", "kept 3 of 3"))
        self.gives(told, "a", ("kept", "nothing"), ("trees", "trees 0"), ("edit 5 0 ''", "error EditError"), ("kept", "nothing"), ("undo", "nothing"), ("kept", "nothing"))

    def test_values(self):
        told = read_checked(SUMS)
        self.gives(told, "1+2+3", ("result", "value 6"), ("value - out", "value 6"), ("value 0 out", "value 1"), ("value 2 out", "value 5"), ("value 2.2 out", "value 3"), ("value - deep", "value 1"),
                   ("value 0 size", "value 1"), ("value 1 out", "nothing"), ("value 0.0 out", "nothing"), ("value 7 out", "nothing"), ("value - word", "nothing"), ("value - all", "value [1 2 3 \"d\"]"))
        self.gives(told, "\"a\"\n'\"", ("result", "value \"a\\\"\\n\\'\""), ("value - all", "value [\"a\\\"\\n\\'\"]"), ("value 1 deep", "value 1"), ("value 1.1.1.1.1 deep", "value 5"),
                   ("value 1.1.1.1.1 word", "value \"\""), ("value 1 out", "nothing"))
        told = read(SUMS.replace("eq odd deep (sub 0 1)", "eq odd deep 0"))
        self.gives(told, "!", ("result", "value [\"a\\\"b\" -3 [] (t [1] (u))]"), ("value - all", "value []"))

    def test_values_with_errors(self):
        told = read_checked(SUMS)
        for text, kind in [("", "TreeError"), ("1+", "TreeError"), ("!", "EquationError"), ("?", "CycleError"), ("#", "ValueFault"), ("1+#", "ValueFault")]:
            self.gives(told, text, ("result", "error " + kind), ("value - out", "error " + kind), ("value 7 strange", "error " + kind), ("computed", "error " + kind))
            self.gives(told, "1", ("result", "value 1"), ("edit 0 1 '%s'" % text, "edited %d %d" % (len(text), len(text) + 1)), ("result", "error " + kind), ("value 7 strange", "error " + kind),
                       ("computed", "error " + kind), ("undo", "edited 1 2"), ("result", "value 1"), ("computed", "computed 4"))

    def test_computed(self):
        told = read_checked(SUMS)
        self.gives(told, "1+2+3", ("computed", "computed 20"), ("edit 0 1 '1'", "edited 5 6"), ("computed", "computed 0"), ("edit 4 1 '4'", "edited 5 2"),
                   # The last digit, and what reads its value or a text around it.
                   ("computed", "computed 10"), ("undo", "edited 5 2"), ("computed", "computed 10"), ("edit 5 0 ''", "edited 5 1"), ("computed", "computed 0"),
                   ("edit 0 5 '\\\"\\\"'", "edited 2 3"), ("computed", "computed 6"), ("edit 0 2 '1+2+3'", "edited 5 6"), ("computed", "computed 20"),
                   ("edit 5 0 '+'", "edited 6 2"), ("computed", "error TreeError"), ("undo", "edited 5 1"), ("computed", "computed 20"),
                   ("edit 4 1 '#'", "edited 5 2"), ("computed", "error ValueFault"), ("edit 0 0 ''", "edited 5 6"), ("computed", "error ValueFault"), ("edit 4 1 '9'", "edited 5 2"),
                   ("computed", "computed 20"), ("result", "value 12"))
        # A text and a node below are others, so the node above them is replaced, not the one below.
        self.gives(told, "\"ab\"", ("computed", "computed 10"), ("edit 1 2 'cc'", "edited 4 4"), ("computed", "computed 9"), ("edit 2 1 'b'", "edited 4 3"), ("computed", "computed 8"),
                   ("edit 3 0 'a'", "edited 5 3"), ("result", "value \"cba\""), ("computed", "computed 9"))
        # Values that come out as before stop what depends on them.
        told = read("start a\nrule two a : b b\nrule one b : {x} ';'\nbelow once a out\nbelow once b out\neq two out (add 0.out 1.out)\neq one out (less 2 (len $0))\nmachine 2 1 1 1\n")
        self.gives(told, "x;xxx;", ("computed", "computed 3"), ("edit 0 0 'x'", "edited 7 8"), ("result", "value 1"), ("computed", "computed 1"), ("edit 0 0 'x'", "edited 8 9"),
                   ("computed", "computed 2"), ("edit 0 4 'x;xxxx'", "edited 10 11"), ("computed", "computed 3"))

    def test_building(self):
        told = read_checked(PROGRAMS)
        self.gives(told, "7", ("statement", "statement (seq (show (num 7)) (skip))"), ("code", ["li r0 7", "show r0", "halt"]), ("run 3", "shows 7"), ("run 2", "error FuelError"),
                   ("mean 3", "shows 7"), ("mean 2", "error FuelError"), ("result", "value (seq (show (num 7)) (skip))"), ("edit 0 1 ''", "edited 0 1"), ("statement", "statement (skip)"),
                   ("code", "halt"), ("run 1", "shows"), ("mean 1", "shows"), ("run 0", "error FuelError"), ("mean 0", "error FuelError"), ("edit 0 0 'f3'", "edited 2 3"), ("run 99", "shows 5 10 3"),
                   ("statement", "statement (seq (seq (show (num 5)) (show (add (num 5) (num 5)))) (seq (show (num 3)) (skip)))"), ("mean 999999999", "shows 5 10 3"), ("undo", "edited 0 1"),
                   ("run 000000009", "shows"))

    def test_errors_of_building(self):
        told = read_checked(PROGRAMS)
        for text, statement, code, mean in [("x", "error TreeError", "error TreeError", "error TreeError"), ("e", "error FuelError", "error FuelError", "error FuelError"),
                                            ("n", "error ValueFault", "error ValueFault", "error ValueFault"), ("u", "error CoverError", "error CoverError", "shows 0"),
                                            ("m", "error SpillError", "error SpillError", "shows -1")]:
            self.gives(told, text, ("statement", statement), ("code", code), ("run 99", code), ("mean 99", mean), ("edit 0 1 '1'", "edited 1 2"), ("run 99", "shows 1"), ("mean 99", "shows 1"),
                       ("undo", "edited 1 2"), ("statement", statement), ("run 99", code))
        self.gives(told, "(1)2", ("run 500", "error FuelError"), ("mean 500", "error FuelError"), ("code", ["L0:", "li r0 1", "jz r0 L1", "li r0 1", "show r0", "jump L0", "L1:", "li r0 2", "show r0", "halt"]))
        self.gives(read_checked(SUMS), "1", ("statement", "error ValueFault"), ("code", "error ValueFault"), ("run 9", "error ValueFault"), ("mean 9", "error ValueFault"))
        self.gives(read_checked(SUMS), "?", ("statement", "error CycleError"), ("run 9", "error CycleError"), ("mean 9", "error CycleError"))
        self.gives(read_checked(SUMS), "!", ("code", "error EquationError"), ("mean 9", "error EquationError"))

    def test_mend(self):
        told = read_checked(SUMS)
        self.gives(told, "1+", ("mend", "mend 1 '1'"), ("edit 2 0 '2'", "edited 3 2"), ("mend", "mend 0 '1+2'"), ("edit 0 3 '\\\"\\\"\\\"'", "edited 3 4"), ("mend", "mend 0 '\\\"\\\"\\\"'"),
                   ("edit 0 3 ''", "edited 0 1"), ("mend", "mend 1 '!'"))
        self.gives(read(LANGUAGE), "show 1;", ("mend", "error runs"), ("edit 0 4 ''", "edited 3 4"), ("mend", "error runs"))
        self.gives(read("start a\nrule one a : 'x' a\nbelow once a out\neq one out 1\nmachine 2 1 1 1\n"), "x", ("mend", "error TreeError"), ("trees", "trees 0"))
        # A run in a rule that is not reached counts as well.
        self.gives(read("start a\nrule one a :\nrule two b : {x}\nbelow once a out\neq one out 1\nmachine 2 1 1 1\n"), "", ("mend", "error runs"))

    def test_against_what_is_told_afresh(self):
        chance = random.Random(321)
        languages = [(COUNT, ["x", "xx", "y", ""]), (read_checked(SUMS), ["1", "+", "2", "+3", "!", "?", "#", "\"", "a", "1+2", "''", "", "\n"]),
                     (read_checked(PROGRAMS), ["1", "2", "f", "e", "n", "u", "(", ")", "()", "(3)", "", "m"])]
        given = set()
        for _ in range(60):
            description, words = chance.choice(languages)
            text = "".join(chance.choice(words) for _ in range(chance.randint(0, 4)))
            desk, afresh = Desk(description, text), Afresh(description, text)
            for _ in range(30):
                name, told = self.some_command(chance, afresh.text, words)
                found = desk.command(line_of(name, told))
                self.assertEqual(found, afresh.told(name, told), (text, name, told))
                given.add((name, found[0].split(" ")[0] + (found[0][5:] if found[0].startswith("error") else "")))
        for pair in [("edit", "edited"), ("edit", "error EditError"), ("undo", "edited"), ("redo", "edited"), ("undo", "nothing"), ("redo", "nothing"), ("tree", "error TreeError"), ("kept", "kept"),
                     ("kept", "error TreeError"), ("computed", "computed"), ("computed", "error TreeError"), ("result", "value"), ("value", "nothing"), ("run", "shows"), ("mend", "mend")]:
            self.assertIn(pair, given)

    def some_command(self, chance, text, words):
        name = chance.choice(["edit"] * 10 + ["undo"] * 5 + ["redo"] * 4 + ["computed"] * 4 + ["kept"] * 4 + ["result"] * 3 + ["text", "trees", "tree", "value", "value", "statement", "code", "run", "mean", "mend"])
        if name == "edit" and len(text) < 14:
            at = chance.randint(0, len(text) + (chance.random() < 0.1))
            return name, [at, chance.choice([0, 0, 1, chance.randint(0, 3)]), chance.choice(words)]
        if name == "edit":
            return name, [0, len(text), chance.choice(words)]
        return name, {"tree": [chance.randrange(3)], "run": [200], "mean": [100], "value": [tuple(chance.randrange(3) for _ in range(chance.randint(0, 2))),
                                                                                          chance.choice(["out", "all", "deep", "word"])]}.get(name, [])

    def test_the_description_of_descriptions_on_a_desk(self):
        desk = Desk(self_description(), self_text())
        self.assertEqual(desk.command("trees"), ["trees 1"])
        at = self_text().index("machine 2")
        self.assertEqual(desk.command("edit %d 9 'machine 03'" % at), ["edited %d %d" % (len(self_text()) + 1, len(self_text()) + 2 - at)])
        self.assertTrue(desk.command("result")[0].endswith(" [3 1 1 1])"))
        kept_line = desk.command("kept")[0].split(" ")
        self.assertGreater(int(kept_line[1]), 0.9 * int(kept_line[3]))
        self.assertLess(int(desk.command("computed")[0].split(" ")[1]), 10)

    def test_arguments_stay_and_results_are_new(self):
        description = read(PROGRAMS)
        before = copy.deepcopy(description)
        lines = ["code", "statement", "edit 0 0 '1'", "undo", "kept", "value - out", "run 50"]
        given = list(lines)
        told = session(description, "12", given)
        kept_lines = list(told)
        told.clear()
        self.assertEqual((session(description, "12", lines), given, description), (kept_lines, lines, before))
        desk = Desk(description, "12")
        for line in ["code", "text", "run 50", "kept"]:
            first = desk.command(line)
            again_told = list(first)
            first.append("more")
            self.assertEqual(desk.command(line), again_told)


if __name__ == "__main__":
    unittest.main()
