"""Mends: points 9.1 to 9.7."""

import copy
import itertools
import random
import unittest

from oracles import cuts, some_grammar, some_text
from scribeself.errors import TreeError
from scribeself.forests import count
from scribeself.grammars import lefts, productive
from scribeself.mends import (accepted, change_count, changed, changes, changes_fit, distance, mend, paper,
                              paper_right)
from shapes import lit, nt, rule

BRACKET = ("grammar", "s", [rule("s", "none"), rule("s", "some", lit("("), nt("s"), lit(")"), nt("s"))])
NO_TEXT = ("grammar", "s", [rule("s", "s0", lit("x"), nt("s")), rule("t", "t0", lit("x"))])


def plain_count(first, second):
    """The least number of changes, from the beginnings of both texts."""
    known = {}
    for i, j in itertools.product(range(len(first) + 1), range(len(second) + 1)):
        if i == 0 or j == 0:
            known[i, j] = i + j
        else:
            same = 0 if first[i - 1] == second[j - 1] else 1
            known[i, j] = min(known[i - 1, j] + 1, known[i, j - 1] + 1, known[i - 1, j - 1] + same)
    return known[len(first), len(second)]


def texts_of(grammar, most):
    """All texts of the names up to a length."""
    texts = {name: set() for name in lefts(grammar)}
    before = -1
    while sum(map(len, texts.values())) > before:
        before = sum(map(len, texts.values()))
        for _, left, _, symbols in grammar[2]:
            parts = {""}
            for kind, word in symbols:
                more = {"lit": [word], "class": list(word), "nt": texts.get(word)}[kind]
                parts = {part + end for part in parts for end in more if len(part + end) <= most}
            texts[left] |= parts
    return texts


def plain_number(text, table, symbol, start, end):
    kind, word = symbol
    if kind == "nt":
        return table.get((word, start, end))
    if kind == "lit":
        return plain_count(text[start:end], word)
    if any(char in word for char in text[start:end]):
        return end - start - 1
    return max(end - start, 1)


def plainly_right(grammar, text, rows):
    """Whether a paper is right, word by word as it is defined."""
    places = [row[:3] for row in rows]
    if places != sorted(set(places)):
        return False
    if any(name not in lefts(grammar) or not 0 <= start <= end <= len(text) for name, start, end in places):
        return False
    table = {row[:3]: row[3] for row in rows}
    for _, left, _, symbols in grammar[2]:
        for start, end in itertools.combinations_with_replacement(range(len(text) + 1), 2):
            sums = [] if symbols else [end - start]
            for cut in cuts(start, end, len(symbols)) if symbols else []:
                numbers = [plain_number(text, table, *told) for told in zip(symbols, cut, cut[1:])]
                if None not in numbers:
                    sums.append(sum(numbers))
            if sums and table.get((left, start, end), min(sums) + 1) > min(sums):
                return False
    return True


def spoiled(chance, rows, names):
    """Rows with one or two faults, or what may be one."""
    rows = list(rows)
    for _ in range(chance.randint(1, 2)):
        if not rows:
            return rows
        k, j = chance.randrange(len(rows)), chance.randrange(len(rows))
        name, start, end, number = rows[k]
        kind = chance.choice(["out", "twice", "number", "number", "number", "name", "stretch", "order"])
        if kind == "out":
            del rows[k]
        elif kind == "twice":
            rows.insert(k, rows[k])
        elif kind == "number":
            rows[k] = (name, start, end, max(0, number + chance.choice([-2, -1, 1, 2])))
        elif kind == "name":
            rows[k] = (chance.choice(names + ["other"]), start, end, number)
        elif kind == "stretch":
            rows[k] = (name, start + chance.choice([-1, 0, 1]), end + chance.choice([-1, 0, 1]), number)
        else:
            rows[k], rows[j] = rows[j], rows[k]
    return rows


class ChangesTest(unittest.TestCase):
    def test_change_count(self):
        for first, second, number in [("", "", 0), ("abc", "abc", 0), ("abc", "", 3), ("", "ab", 2), ("kitten", "sitting", 3),
                                      ("abc", "bc", 1), ("ab", "ba", 2), ("flaw", "lawn", 2), ("aaaa", "aa", 2)]:
            self.assertEqual(change_count(first, second), number)

    def test_changes(self):
        self.assertEqual(changes("abc", "abc"), [])
        self.assertEqual(changes("", "ab"), [(0, 0, "a"), (0, 0, "b")])
        self.assertEqual(changes("ab", ""), [(0, 1, ""), (1, 1, "")])
        self.assertEqual(changes("abc", "axc"), [(1, 1, "x")])
        self.assertEqual(changes("abc", "xabc"), [(0, 0, "x")])
        self.assertEqual(changes("abc", "abcx"), [(3, 0, "x")])

    def test_by_chance(self):
        chance = random.Random(12)
        for _ in range(500):
            first, second = some_text(chance, 8, "abc"), some_text(chance, 8, "abc")
            edits = changes(first, second)
            self.assertEqual(len(edits), plain_count(first, second))
            self.assertEqual(change_count(first, second), len(edits))
            self.assertIs(changes_fit(first, edits), True)
            self.assertEqual(changed(first, edits), second)

    def test_changed(self):
        self.assertEqual(changed("abc", []), "abc")
        self.assertEqual(changed("(()", [(2, 0, ")")]), "(())")
        self.assertEqual(changed("abc", [(1, 0, "x"), (1, 0, "y"), (1, 1, "z"), (2, 1, "")]), "axyz")
        self.assertEqual(changed("abc", [(0, 1, ""), (1, 0, "p"), (3, 0, "q"), (3, 0, "r")]), "pbcqr")

    def test_changes_fit(self):
        for edits in [[], [(0, 1, "x")], [(0, 1, "")], [(0, 0, "a")], [(3, 0, "a")], [(2, 1, "x"), (3, 0, "y"), (3, 0, "y")],
                      [(0, 0, "x"), (0, 1, "y"), (1, 1, ""), (2, 0, "z"), (2, 1, "z")], [(1, 0, "x"), (1, 1, "")]]:
            self.assertIs(changes_fit("abc", edits), True, edits)

    def test_changes_that_do_not_fit(self):
        for edits in [[(0, 1, "a")], [(2, 1, "c")], [(0, 0, "")], [(0, 0, "xy")], [(0, 1, "xy")], [(0, 2, "")], [(0, 2, "x")],
                      [(-1, 0, "x")], [(-1, 1, "x")], [(4, 0, "x")], [(3, 1, "x")], [(3, 1, "")], [(0, -1, "x")],
                      [(1, 1, "x"), (1, 1, "y")], [(1, 1, "x"), (1, 0, "y")], [(1, 1, ""), (0, 1, "")], [(2, 0, "x"), (1, 0, "x")],
                      [(1, 0, "x"), (0, 1, "y")], [(0, 1, "x"), (5, 0, "y")]]:
            self.assertIs(changes_fit("abc", edits), False, edits)
        self.assertIs(changes_fit("", [(0, 1, "")]), False)
        self.assertIs(changes_fit("", [(0, 0, "x"), (0, 0, "x")]), True)


class MendTest(unittest.TestCase):
    def test_example(self):
        self.assertEqual(distance(BRACKET, "(()"), 1)
        self.assertEqual(mend(BRACKET, "(()")[1], "()")

    def test_texts_of_the_grammar(self):
        for text in ["", "()", "(())()"]:
            self.assertEqual(distance(BRACKET, text), 0)
            self.assertEqual(mend(BRACKET, text), ([], text))

    def test_grammars_without_texts(self):
        for text in ["", "x", "xx"]:
            self.assertRaises(TreeError, distance, NO_TEXT, text)
            self.assertRaises(TreeError, mend, NO_TEXT, text)
            self.assertEqual({row[0] for row in paper(NO_TEXT, text)}, {"t"})

    def test_the_least_number_of_changes(self):
        grammar = ("grammar", "s", [rule("s", "long", lit("aaaaaa")), rule("s", "short", lit("b"))])
        edits, new = mend(grammar, "aaaa")
        self.assertEqual((len(edits), changed("aaaa", edits), new), (2, "aaaaaa", "aaaaaa"))
        self.assertEqual((distance(grammar, "ba"), mend(grammar, "ba")[1]), (1, "b"))

    def test_then_the_shortest(self):
        grammar = ("grammar", "s", [rule("s", "s0", lit("abc")), rule("s", "s1", lit("zb")), rule("s", "s2", lit("a"))])
        self.assertEqual(mend(grammar, "ab")[1], "a")
        self.assertEqual(mend(grammar, "xb")[1], "zb")

    def test_the_shortest_may_have_the_highest_tree(self):
        rules = [rule("s", "s0", lit("xx")), rule("s", "s1", nt("a"), nt("e")), rule("a", "a0", nt("e"), nt("b")),
                 rule("b", "b0", nt("c")), rule("c", "c0", nt("e"), lit("y"), nt("e")), rule("e", "e0")]
        self.assertEqual(mend(("grammar", "s", rules), "zz")[1], "y")

    def test_then_the_least(self):
        grammar = ("grammar", "s", [rule("s", "s0", lit("b"), ("class", "yz")), rule("s", "s1", lit("a"), ("class", "yz"))])
        self.assertEqual(mend(grammar, "--")[1], "ay")
        self.assertEqual(mend(grammar, "b")[1], "by")
        self.assertEqual(mend(grammar, "cz")[1], "az")
        self.assertEqual(mend(grammar, "zy")[1], "ay")
        self.assertEqual(mend(("grammar", "s", [rule("s", "s0", ("class", "\n a"))]), "")[1], "\n")

    def test_a_class_keeps_the_least_character(self):
        grammar = ("grammar", "s", [rule("s", "s0", ("class", "abc"))])
        self.assertEqual(mend(grammar, "xcbx")[1], "b")
        self.assertEqual(distance(grammar, "xcbx"), 3)
        self.assertEqual(distance(grammar, "xx"), 2)
        self.assertEqual(distance(grammar, ""), 1)

    def test_recursive_rules_and_rules_that_derive_nothing(self):
        rules = [rule("s", "s0", nt("s"), nt("t")), rule("s", "s1", nt("e")), rule("t", "t0", lit("xy")),
                 rule("t", "t1", nt("dead")), rule("dead", "d0", lit("z"), nt("dead")), rule("e", "e0")]
        grammar = ("grammar", "s", rules)
        self.assertEqual((distance(grammar, "zxyyx"), mend(grammar, "zxyyx")[1]), (3, "xy"))
        self.assertEqual(mend(grammar, "z")[1], "")
        self.assertEqual(mend(grammar, "x")[1], "")

    def test_long_ways_through_names(self):
        rules = [rule("n" + str(k), "r" + str(k), nt("n" + str(k + 1)), nt("e")) for k in range(20)]
        rules += [rule("n20", "last", lit("x"), nt("n0")), rule("n20", "end"), rule("e", "e0"), rule("e", "e1", lit("y"))]
        grammar = ("grammar", "n0", rules)
        self.assertEqual((distance(grammar, "xzxzy"), mend(grammar, "xzxzy")[1]), (2, "xxy"))

    def test_by_all_texts(self):
        chance = random.Random(13)
        seen = 0
        while seen < 150:
            grammar = some_grammar(chance, runs=False)
            texts = texts_of(grammar, 7)[grammar[1]]
            for _ in range(3):
                text = some_text(chance, 4, "xyz")
                best = min(((plain_count(text, other), len(other), other) for other in texts), default=(9, 0, ""))
                if best[0] <= 3:
                    seen += 1
                    edits, new = mend(grammar, text)
                    self.assertEqual((distance(grammar, text), new), (best[0], best[2]), (grammar, text))
                    self.assertEqual((len(edits), changed(text, edits)), (best[0], new))
                    self.assertIs(changes_fit(text, edits), True)

    def test_forty_characters(self):
        self.assertEqual((distance(BRACKET, ")(" * 20), mend(BRACKET, ")(" * 20)[1]), (2, "()" * 19))
        rules = [rule("e", "sum", nt("e"), lit("+"), nt("t")), rule("e", "one", nt("t")), rule("t", "mul", nt("t"), lit("*"), nt("f")),
                 rule("t", "two", nt("f")), rule("f", "in", lit("("), nt("e"), lit(")")), rule("f", "num", nt("n")),
                 rule("n", "more", ("class", "0123456789"), nt("n")), rule("n", "last", ("class", "0123456789"))]
        grammar = ("grammar", "e", rules)
        text = "(12+)*3+((4*5+67*(89)+*1)+2))*34+(5*6+7)"
        self.assertEqual(len(text), 40)
        edits, new = mend(grammar, text)
        self.assertEqual(changed(text, edits), new)
        self.assertEqual(len(edits), distance(grammar, text))
        self.assertEqual(count(grammar, [], new), 1)
        rows = paper(grammar, text)
        self.assertIs(accepted(grammar, text, edits, rows), True)
        self.assertEqual(len(rows), 4 * 861)


class PaperTest(unittest.TestCase):
    def test_example(self):
        self.assertEqual(paper(BRACKET, "("), [("s", 0, 0, 0), ("s", 0, 1, 1), ("s", 1, 1, 0)])

    def test_rows_that_are_due(self):
        rules = [rule("s", "s0", nt("b"), nt("a")), rule("b", "b0", lit("bb")), rule("a", "a0", nt("dead")), rule("a", "a1"),
                 rule("dead", "d0", lit("z"), nt("dead")), rule("aside", "a2", ("class", "xy"))]
        grammar = ("grammar", "s", rules)
        found = paper(grammar, "bx")
        stretches = [(0, 0), (0, 1), (0, 2), (1, 1), (1, 2), (2, 2)]
        self.assertEqual([row[:3] for row in found], [(name, *ends) for name in ["a", "aside", "b", "s"] for ends in stretches])
        self.assertEqual([row[3] for row in found], [0, 1, 2, 0, 1, 0] + [1, 1, 1, 1, 0, 1] + [2, 1, 1, 2, 2, 2] * 2)

    def test_numbers_are_distances(self):
        chance = random.Random(14)
        for _ in range(60):
            grammar = some_grammar(chance, runs=False)
            text = some_text(chance, 4, "xyz")
            table = {row[:3]: row[3] for row in paper(grammar, text)}
            for name in lefts(grammar):
                for start, end in itertools.combinations_with_replacement(range(len(text) + 1), 2):
                    told = ("grammar", name, grammar[2])
                    if name in productive(grammar):
                        self.assertEqual(table[(name, start, end)], distance(told, text[start:end]))
                    else:
                        self.assertNotIn((name, start, end), table)

    def test_right_papers(self):
        for text in ["", "(", "())"]:
            rows = paper(BRACKET, text)
            self.assertIs(paper_right(BRACKET, text, rows), True)
            # Less is true, too, where no rule undercuts it.
            self.assertIs(paper_right(BRACKET, text, [row[:3] + (0,) for row in rows]), True)
        self.assertIs(paper_right(NO_TEXT, "", []), False)
        self.assertIs(paper_right(NO_TEXT, "", [("t", 0, 0, 1)]), True)
        self.assertIs(paper_right(NO_TEXT, "", [("s", 0, 0, 1), ("t", 0, 0, 1)]), True)
        self.assertIs(paper_right(("grammar", "s", NO_TEXT[2][:1]), "xy", []), True)

    def test_wrong_papers(self):
        rows = paper(BRACKET, "()")
        for k in range(len(rows)):
            greater = rows[k][:3] + (rows[k][3] + 1,)
            for other in [rows[:k] + rows[k + 1:], rows[:k] + [rows[k]] + rows[k:], rows[:k] + [greater] + rows[k + 1:],
                          rows[:k] + [("t",) + rows[k][1:]] + rows[k + 1:], rows[:k] + rows[k + 1:] + [rows[k]] * (k < 5)]:
                self.assertIs(paper_right(BRACKET, "()", other), False, other)
        for extra in [("s", 0, 3, 9), ("s", 3, 3, 9), ("s", -1, 0, 9), ("s", 2, 1, 9), ("t", 0, 0, 9), ("a", 0, 0, 0)]:
            self.assertIs(paper_right(BRACKET, "()", sorted(rows + [extra])), False, extra)

    def test_by_definition(self):
        chance = random.Random(15)
        right = 0
        for _ in range(100):
            grammar = some_grammar(chance, runs=False)
            text = some_text(chance, 3, "xyz")
            rows = paper(grammar, text)
            self.assertIs(paper_right(grammar, text, rows), True)
            self.assertTrue(plainly_right(grammar, text, rows))
            best = {row[:3]: row[3] for row in rows}
            for _ in range(6):
                other = spoiled(chance, rows, lefts(grammar))
                told = plainly_right(grammar, text, other)
                self.assertIs(paper_right(grammar, text, other), told, (grammar, text, other))
                if told:
                    right += 1
                    numbers = {row[:3]: row[3] for row in other}
                    self.assertTrue(all(numbers[place] <= best[place] for place in best))
        self.assertGreater(right, 50)


class AcceptedTest(unittest.TestCase):
    TEXT = "())("
    EDITS = [(2, 1, "(" ), (3, 1, ")")]
    ROWS = paper(BRACKET, TEXT)

    def test_accepted(self):
        self.assertIs(accepted(BRACKET, self.TEXT, self.EDITS, self.ROWS), True)
        self.assertIs(accepted(BRACKET, self.TEXT, [(2, 1, ""), (3, 1, "")], self.ROWS), True)
        self.assertIs(accepted(BRACKET, "()", [], paper(BRACKET, "()")), True)
        self.assertIs(accepted(BRACKET, "", [], paper(BRACKET, "")), True)

    def test_wrong_edits(self):
        for edits in [[], [(2, 1, "")], [(3, 1, ""), (2, 1, "")], [(2, 1, ""), (3, 1, "("), (4, 0, ")")],
                      [(0, 0, "("), (0, 0, "("), (4, 0, ")")], [(2, 1, ")"), (3, 1, ")")], [(2, 2, "")], [(2, 1, "(("), (3, 1, "")],
                      [(2, 1, ""), (4, 1, "")], [(-1, 0, "("), (3, 1, "")], [(2, 1, ""), (2, 0, "x")], [(0, 1, "x"), (1, 1, "x")],
                      [(0, 0, "("), (4, 0, ")"), (4, 0, "("), (4, 0, ")")]]:
            self.assertIs(accepted(BRACKET, self.TEXT, edits, self.ROWS), False, edits)

    def test_more_edits_than_are_due(self):
        edits = [(0, 1, ""), (1, 1, ""), (2, 1, ""), (3, 1, "")]
        self.assertIs(accepted(BRACKET, self.TEXT, edits, self.ROWS), False)
        rows = [row[:3] + (4,) if row[:3] == ("s", 0, 4) else row for row in self.ROWS]
        self.assertIs(accepted(BRACKET, self.TEXT, edits, rows), False)

    def test_fewer_edits_than_a_right_paper_says(self):
        rows = [row[:3] + (0,) for row in self.ROWS]
        self.assertIs(paper_right(BRACKET, self.TEXT, rows), True)
        self.assertIs(accepted(BRACKET, self.TEXT, self.EDITS, rows), False)

    def test_wrong_papers(self):
        for k, row in enumerate(self.ROWS):
            for other in [self.ROWS[:k] + self.ROWS[k + 1:], self.ROWS[:k] + [row] + self.ROWS[k:],
                          self.ROWS[:k] + [row[:3] + (row[3] + 1,)] + self.ROWS[k + 1:]]:
                self.assertIs(accepted(BRACKET, self.TEXT, self.EDITS, other), False)
        self.assertIs(accepted(BRACKET, self.TEXT, self.EDITS, []), False)
        self.assertIs(accepted(BRACKET, self.TEXT, self.EDITS, self.ROWS[::-1]), False)
        self.assertIs(accepted(BRACKET, self.TEXT, self.EDITS, [("s", 0, 4, 2)]), False)

    def test_by_chance(self):
        chance = random.Random(16)
        for _ in range(100):
            grammar = some_grammar(chance, runs=False)
            if grammar[1] in productive(grammar):
                text = some_text(chance, 4, "xyz")
                edits, _ = mend(grammar, text)
                rows = paper(grammar, text)
                self.assertIs(accepted(grammar, text, edits, rows), True)
                more = edits + [(len(text), 0, "x")]
                self.assertIs(accepted(grammar, text, more, rows), False)
                self.assertIs(accepted(grammar, text, edits[1:], rows), False if edits else True)


class SharingTest(unittest.TestCase):
    def test_arguments_stay_and_results_are_new(self):
        grammar = copy.deepcopy(BRACKET)
        edits, rows = [(2, 1, "("), (3, 1, ")")], paper(BRACKET, "())(")
        given = copy.deepcopy((edits, rows))
        calls = [lambda: changes("ab", "ba"), lambda: [changed("())(", edits)], lambda: [distance(grammar, "())(")],
                 lambda: mend(grammar, "())(")[0], lambda: paper(grammar, "())("), lambda: [changes_fit("())(", edits)],
                 lambda: [paper_right(grammar, "())(", rows)], lambda: [accepted(grammar, "())(", edits, rows)]]
        for call in calls:
            found = call()
            before = copy.deepcopy(found)
            found.clear()
            self.assertEqual(call(), before)
            self.assertEqual((grammar, edits, rows), (BRACKET, *given))


if __name__ == "__main__":
    unittest.main()
