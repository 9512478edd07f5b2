"""The names and arguments of the interface, and where they are defined."""

import importlib
import inspect
import unittest

FUNCTIONS = {
    "classes": ["all_characters()", "canon(text)", "is_class(text)", "union(first, second)", "minus(first, second)",
                "inverse(chars)", "split(classes)"],
    "grammars": ["is_name(text)", "check(grammar)", "lefts(grammar)", "nullable(grammar)", "productive(grammar)",
                 "reached(grammar)", "cyclic(grammar)", "firsts(grammar)"],
    "forests": ["check_filters(grammar, filters)", "forest(grammar, filters, text)", "count(grammar, filters, text)",
                "tree(grammar, filters, text, number)", "parse(grammar, filters, text)"],
    "trees": ["text_of(tree)", "fits(grammar, tree)", "nodes(tree)", "subtree(tree, path)",
              "replaced(tree, path, other)", "deepest(tree, start, end)"],
    "edits": ["applied(text, edit)", "inverse_of(text, edit)", "moved(edit, position, right)",
              "difference(first, second)", "joined(text, first, second)"],
    "reuse": ["read(grammar, filters, text)", "read_again(reading, edit)", "kept(old, new, edit)"],
    "mends": ["changes(first, second)", "change_count(first, second)", "changed(text, edits)",
              "distance(grammar, text)", "mend(grammar, text)", "paper(grammar, text)",
              "paper_right(grammar, text, rows)", "changes_fit(text, edits)",
              "accepted(grammar, text, edits, rows)"],
    "values": ["wrapped(n)", "call(name, args)", "references(expression)", "reads_texts(expression)",
               "value_of(expression, known, own, kids)"],
    "equations": ["check(grammar, attributes)"],
    "solving": ["solve(grammar, attributes, tree)"],
    "ordering": ["orders(grammar, attributes)", "check_order(grammar, attributes)"],
    "records": ["recorded(grammar, attributes, tree)", "again(record, path, other)"],
    "scopes": ["check_graph(graph)", "check_policy(policy)", "visible(graph, policy, reference)",
               "meaning(graph, policy, reference)", "resolve(graph, policy)",
               "path_right(graph, policy, reference, path, declaration)"],
    "renaming": ["meanings(graph, policy)", "renamed(graph, declaration, references, new)",
                 "rename(graph, policy, declaration, new)", "unused(graph, wanted)"],
    "rewriting": ["rules_fit(rules)", "step(rules, value)", "normal(rules, value)"],
    "meaning": ["wrap(number)", "operate(name, a, b)", "is_expression(value)", "is_statement(value)",
                "evaluate(expression, store)", "begin(statement)", "step(configuration)", "run(statement, fuel)",
                "observe(statement, fuel)"],
    "machines": ["is_machine(value)", "check_list(instructions, registers)", "reads(instruction)",
                 "writes(instruction)", "slot_read(instruction)", "slot_written(instruction)", "target(instruction)",
                 "latency(machine, instruction)", "format_instruction(instruction)", "format_list(instructions)",
                 "parse_instruction(line)", "parse_list(text)", "play(instructions, fuel)",
                 "observe_list(instructions, fuel)"],
    "covers": ["cover(patterns, expression)", "cover_cost(patterns, expression, told)",
               "compiled(patterns, statement)"],
    "patterns": ["check_pattern(pattern)"],
    "flow": ["successors(instructions)", "predecessors(instructions)", "entries(instructions)",
             "reachable(instructions)", "mentioned(instructions)", "live(instructions)",
             "live_path(instructions, at, number)", "reaching(instructions)",
             "reaching_path(instructions, at, number, index)", "drop_dead(instructions)"],
    "scheduling": ["stretches(instructions)", "dependences(stretch)", "profile(machine, stretch)",
                   "is_order(machine, stretch, order)", "best_order(machine, stretch)",
                   "schedule(machine, instructions)", "check_schedule(machine, instructions, scheduled)"],
    "colouring": ["interference(instructions)", "allocate(instructions, registers)",
                  "check_allocation(instructions, allocated)"],
    "codes": ["size(instruction)", "encode(instruction, address)", "decode(words, at)", "offsets(instructions)",
              "assemble(instructions)", "disassemble(words)"],
    "linking": ["addresses(parts)", "combine(parts)", "link(parts)", "missing(parts)", "pulled(parts, library)"],
    "running": ["start(machine)", "advance(machine, image, state)", "execute(machine, image, fuel)",
                "observe_image(machine, image, fuel)"],
    "descriptions": ["fits(description)", "read(text)", "read_checked(text)"],
    "writing": ["write(description)"],
    "converting": ["as_value(description)", "from_value(value)"],
    "building": ["result_of(description, text)", "statement_of(description, result)",
                 "code_of(description, statement)", "build(description, text)",
                 "meaning_shows(description, text, fuel)", "image_shows(description, built, fuel)",
                 "read_by(description, text)"],
    "selfmade": ["self_text()", "self_description()"],
    "desk": ["session(description, text, lines)"],
}

METHODS = {
    ("reuse", "Reading"): ["tree(self, number)"],
    ("records", "Record"): [],
    ("covers", "Coder"): ["__init__(self, patterns)", "expression(self, expression, told)"],
    ("building", "Built"): [],
    ("desk", "Desk"): ["__init__(self, description, text)", "command(self, line)"],
}


class InterfaceTest(unittest.TestCase):
    def test_functions(self):
        for file, calls in FUNCTIONS.items():
            module = importlib.import_module("scribeself." + file)
            for call in calls:
                name = call.split("(")[0]
                function = vars(module)[name]
                self.assertEqual(name + str(inspect.signature(function)), call, file)
                self.assertEqual(function.__module__, "scribeself." + file)

    def test_classes(self):
        for (file, name), calls in METHODS.items():
            module = importlib.import_module("scribeself." + file)
            made = vars(module)[name]
            self.assertEqual(made.__module__, "scribeself." + file)
            for call in calls:
                method = call.split("(")[0]
                self.assertEqual(method + str(inspect.signature(vars(made)[method])), call)


if __name__ == "__main__":
    unittest.main()
