"""Descriptions by chance, a plain way to write them, and languages to build with."""

from covering import BASE

CHARS = "\n !\"#$&'()*+,-./0123456789:;<=>?@ABCXYZ[\\]^_`abcxyz{|}~"
SPECIAL = "\\'\"]}\n"
KINDS = ["once", "most", "all"]

# A description with each kind of line, symbol, expression and pattern.
FULL = """start a
rule one a : 'x\\'y' [\\"\\\\\\]ab] {0123456789} b
rule two b :
rule three a : a b 'x'
first one three
under three 0 one
stop a [\\}\\n]
bar b 'x' '' 'y\\n'
below once a out
below all b kinds
above most b in
eq one out (cat $ (? .out 3.kinds (!foo 12 -3 $1)))
down one 3 in "a\\"b"
eq two kinds (list)
rewrite (a ?x 1 "t") (b ?x -1 (c))
rewrite 5 "five"
cover 3 (num ?n) : (li ?out ?n) (mov ?a ?b)
cover 0 ?x :
machine 2 1 10 999999999
"""

# Sums and products of digits and variables, with brackets; what is shown, set, repeated and chosen.
LANGUAGE = """start program
rule program program : space list
rule nothing list :
rule step list : list command ';' space
rule show command : 'show' space value
rule set command : variable '=' space value
rule while command : 'while' space value '{' space list '\\}' space
rule if command : 'if' space value '{' space list '\\}' space
rule ifelse command : 'if' space value '{' space list '\\}' space 'else' space '{' space list '\\}' space
rule sum value : value '+' space value
rule difference value : value '-' space value
rule product value : value '*' space value
rule less value : value '<' space value
rule same value : value '==' space value
rule minus value : '-' space value
rule bracket value : '(' space value ')' space
rule number value : {0123456789} space
rule name value : variable
rule variable variable : letters space
rule letters letters : {abcdefghijklmnopqrstuvwxyz}
rule none space :
rule some space : {\\n }
under product 0 sum
under product 0 difference
under product 3 sum
under product 3 difference
under product 3 product
under sum 3 sum
under sum 3 difference
under difference 3 sum
under difference 3 difference
under sum 0 less
under sum 3 less
under difference 0 less
under difference 3 less
under product 0 less
under product 3 less
under less 3 less
under sum 0 same
under sum 3 same
under difference 0 same
under difference 3 same
under product 0 same
under product 3 same
under less 0 same
under less 3 same
under same 3 same
under minus 2 sum
under minus 2 difference
under minus 2 product
under minus 2 less
under minus 2 same
bar letters 'show' 'while' 'if' 'else'
below once program out
below all program names
below once list out
below all list names
below once command out
below all command names
below once value out
below all value names
below once variable out
below all variable names
above all list scope
above all command scope
above all value scope
above all variable scope
eq program out 1.out
eq program names 1.names
down program 1 scope 1.names
eq nothing out (!skip)
eq nothing names (list)
eq step out (!seq 0.out 1.out)
eq step names (join 0.names 1.names)
down step 0 scope .scope
down step 1 scope .scope
eq show out (!show 2.out)
eq show names 2.names
down show 2 scope .scope
eq set out (!set 0.out 3.out)
eq set names (join 0.names 3.names)
down set 0 scope .scope
down set 3 scope .scope
eq while out (!loop 2.out 5.out)
eq while names (join 2.names 5.names)
down while 2 scope .scope
down while 5 scope .scope
eq if out (!when 2.out 5.out (!skip))
eq if names (join 2.names 5.names)
down if 2 scope .scope
down if 5 scope .scope
eq ifelse out (!when 2.out 5.out 12.out)
eq ifelse names (join 2.names (join 5.names 12.names))
down ifelse 2 scope .scope
down ifelse 5 scope .scope
down ifelse 12 scope .scope
eq sum out (!add 0.out 3.out)
eq sum names (join 0.names 3.names)
down sum 0 scope .scope
down sum 3 scope .scope
eq difference out (!sub 0.out 3.out)
eq difference names (join 0.names 3.names)
down difference 0 scope .scope
down difference 3 scope .scope
eq product out (!mul 0.out 3.out)
eq product names (join 0.names 3.names)
down product 0 scope .scope
down product 3 scope .scope
eq less out (!less 0.out 3.out)
eq less names (join 0.names 3.names)
down less 0 scope .scope
down less 3 scope .scope
eq same out (!same 0.out 3.out)
eq same names (join 0.names 3.names)
down same 0 scope .scope
down same 3 scope .scope
eq minus out (!minus 2.out)
eq minus names 2.names
down minus 2 scope .scope
eq bracket out 2.out
eq bracket names 2.names
down bracket 2 scope .scope
eq number out (!num (number $0))
eq number names (list)
eq name out (!var 0.out)
eq name names 0.names
down name 0 scope .scope
eq variable out (? (same $0 (at .scope 0)) 0 (? (same $0 (at .scope 1)) 1 (? (same $0 (at .scope 2)) 2 (? (same $0 (at .scope 3)) 3 (? (same $0 (at .scope 4)) 4 (? (same $0 (at .scope 5)) 5 (at "" 0)))))))
eq variable names (list $0)
rewrite (minus (num ?n)) (sub (num 0) (num ?n))
rewrite (minus ?x) (sub (num 0) ?x)
rewrite (mul ?x (num 1)) ?x
rewrite (add ?x ?x) (mul ?x (num 2))
rewrite (seq (skip) ?x) ?x
cover 1 (num ?n) : (li ?out ?n)
cover 2 (var ?s) : (ld ?out ?s)
cover 1 (add ?a ?b) : (op "add" ?out ?a ?b)
cover 1 (sub ?a ?b) : (op "sub" ?out ?a ?b)
cover 3 (mul ?a ?b) : (op "mul" ?out ?a ?b)
cover 2 (mul ?a (num 2)) : (op "add" ?out ?a ?a)
cover 1 (less ?a ?b) : (op "less" ?out ?a ?b)
cover 1 (same ?a ?b) : (op "same" ?out ?a ?b)
machine 3 4 3 1
"""


def some_name(chance):
    return chance.choice("abxyz") + "".join(chance.choice("abz019") for _ in range(chance.choice([0, 1, 3, 20])))


def some_text(chance):
    return "".join(chance.choice(CHARS + SPECIAL * 3) for _ in range(chance.choice([0, 1, 2, 9])))


def some_integer(chance):
    return chance.choice([0, 1, -1, 7, 999999999, -999999999, 123456789, -20])


def some_number(chance):
    return abs(some_integer(chance))


def some_written_expression(chance, deep):
    kind = chance.choice(["val", "val", "own", "kid", "text", "kidtext"] + ["if", "call", "call", "made"] * 2 * (deep > 0))
    parts = [some_written_expression(chance, deep - 1) for _ in range(chance.randint(0, 3))] if kind in ("call", "made") else []
    return {"val": lambda: ("val", chance.choice([some_integer(chance), some_text(chance)])),
            "own": lambda: ("own", some_name(chance)),
            "kid": lambda: ("kid", some_number(chance), some_name(chance)),
            "text": lambda: ("text",),
            "kidtext": lambda: ("kidtext", some_number(chance)),
            "if": lambda: ("if",) + tuple(some_written_expression(chance, deep - 1) for _ in range(3)),
            "call": lambda: ("call", some_name(chance), parts),
            "made": lambda: ("call", "make " + some_name(chance), parts)}[kind]()


def some_written_pattern(chance, deep, top=False):
    choice = chance.random()
    if top or (deep and choice < 0.5):
        return ("term", some_name(chance), [some_written_pattern(chance, deep - 1) for _ in range(chance.randint(0, 3) if deep else 0)])
    if choice < 0.7:
        return ("hole", some_name(chance))
    return chance.choice([some_integer(chance), some_text(chance)])


def some_filter(chance, many):
    rule = chance.randrange(many)
    return chance.choice([("first", rule, chance.randrange(many)), ("under", rule, some_number(chance), chance.randrange(many)),
                          ("stop", some_name(chance), some_text(chance)), ("bar", some_name(chance), [some_text(chance) for _ in range(chance.randint(0, 3))])])


def some_description(chance):
    """A description that can be written; its parts need not fit."""
    many = chance.randint(0, 5)
    symbol = [lambda: ("lit", some_text(chance)), lambda: ("class", some_text(chance)), lambda: ("run", some_text(chance)), lambda: ("nt", some_name(chance))]
    rules = [("rule", some_name(chance), some_name(chance) + "l" + str(k), [chance.choice(symbol)() for _ in range(chance.randint(0, 4))]) for k in range(many)]
    filters = [some_filter(chance, many) for _ in range(chance.randint(0, 4) if many else 0)]
    below, above = [[(some_name(chance), some_name(chance), chance.choice(KINDS)) for _ in range(chance.randint(0, 3))] for _ in range(2)]
    targets = [chance.choice([("own", some_name(chance)), ("kid", some_number(chance), some_name(chance))]) for _ in range(chance.randint(0, 4) if many else 0)]
    equations = [("eq", chance.randrange(many), target, some_written_expression(chance, 3)) for target in targets]
    rewriting = [(some_written_pattern(chance, 3), some_written_pattern(chance, 3)) for _ in range(chance.randint(0, 3))]
    patterns = [(some_number(chance), some_written_pattern(chance, 3), [some_written_pattern(chance, 2, True) for _ in range(chance.randint(0, 3))])
                for _ in range(chance.randint(0, 3))]
    machine = ("machine",) + tuple(some_number(chance) for _ in range(4))
    return ("description", ("grammar", some_name(chance), rules), filters, ("attributes", below, above, equations), rewriting, patterns, machine)


def plain_quoted(text):
    return "".join("\\n" if char == "\n" else "\\" + char if char in SPECIAL else char for char in text)


def plain_expression(part):
    kind, parts = part[0], part[1:]
    if kind == "call":
        name = "!" + parts[0][5:] if parts[0][:5] == "make " else parts[0]
        return "(" + name + "".join(" " + plain_expression(one) for one in parts[1]) + ")"
    if kind == "val":
        return '"' + plain_quoted(parts[0]) + '"' if isinstance(parts[0], str) else str(parts[0])
    return {"if": lambda: "(? " + " ".join(map(plain_expression, parts)) + ")", "own": lambda: "." + parts[0], "kid": lambda: str(parts[0]) + "." + parts[1],
            "text": lambda: "$", "kidtext": lambda: "$" + str(parts[0])}[kind]()


def plain_pattern(part):
    if isinstance(part, str):
        return '"' + plain_quoted(part) + '"'
    if isinstance(part, int):
        return str(part)
    return "?" + part[1] if part[0] == "hole" else "(" + " ".join([part[1]] + [plain_pattern(one) for one in part[2]]) + ")"


def plain_text(description):
    """The text of a description, line by line as it is told."""
    _, (_, start, rules), filters, (_, below, above, equations), rewriting, patterns, machine = description
    label = [rule[2] for rule in rules]
    lines = ["start " + start]
    for _, left, name, symbols in rules:
        around = {"lit": "''", "class": "[]", "run": "{}"}
        words = [word if kind == "nt" else around[kind][0] + plain_quoted(word) + around[kind][1] for kind, word in symbols]
        lines.append(" ".join(["rule", name, left, ":"] + words))
    for one in filters:
        lines.append({"first": lambda: "first " + label[one[1]] + " " + label[one[2]],
                      "under": lambda: "under " + label[one[1]] + " " + str(one[2]) + " " + label[one[3]],
                      "stop": lambda: "stop " + one[1] + " [" + plain_quoted(one[2]) + "]",
                      "bar": lambda: "bar " + one[1] + "".join(" '" + plain_quoted(text) + "'" for text in one[2])}[one[0]]())
    lines += ["below " + kind + " " + name + " " + attribute for name, attribute, kind in below]
    lines += ["above " + kind + " " + name + " " + attribute for name, attribute, kind in above]
    for _, rule, target, part in equations:
        head = "eq " + label[rule] if target[0] == "own" else "down " + label[rule] + " " + str(target[1])
        lines.append(head + " " + target[-1] + " " + plain_expression(part))
    lines += ["rewrite " + plain_pattern(left) + " " + plain_pattern(right) for left, right in rewriting]
    lines += ["cover " + str(cost) + " " + plain_pattern(tree) + " :" + "".join(" " + plain_pattern(part) for part in told) for cost, tree, told in patterns]
    lines.append(" ".join(map(str, machine)))
    return "".join(line + "\n" for line in lines)


def small_description(**changed):
    """A description whose parts fit, with other ones in place of some of them."""
    parts = {"grammar": ("grammar", "a", [("rule", "a", "more", [("lit", "x"), ("nt", "a")]), ("rule", "a", "one", [])]),
             "filters": [("bar", "a", ["xxxx"])],
             "attributes": ("attributes", [("a", "out", "once")], [], [("eq", 0, ("own", "out"), ("call", "add", [("val", 1), ("kid", 1, "out")])),
                                                                     ("eq", 1, ("own", "out"), ("val", 0))]),
             "rewriting": [(("term", "f", [("hole", "x")]), ("hole", "x"))], "patterns": list(BASE), "machine": ("machine", 2, 1, 1, 1)}
    parts.update(changed)
    return ("description",) + tuple(parts[name] for name in ["grammar", "filters", "attributes", "rewriting", "patterns", "machine"])
