"""The description of descriptions: points 30.5 and 30.6."""

import copy
import random
import time
import unittest

from describing import FULL, LANGUAGE, plain_text, some_description
from scribeself.building import read_by, result_of
from scribeself.classes import all_characters
from scribeself.converting import as_value
from scribeself.descriptions import fits, read
from scribeself.errors import DescriptionError, TreeError
from scribeself.forests import count
from scribeself.selfmade import self_description, self_text
from scribeself.writing import write
from test_descriptions import changed

END = "machine 2 1 1 1\n"
SELF = self_description()


class SelfTest(unittest.TestCase):
    def reads(self, text, by=None):
        """A text is read by a description as `read` does; whether it is one of a description."""
        by = SELF if by is None else by
        try:
            told = read(text)
        except DescriptionError:
            self.assertRaises((TreeError, DescriptionError), read_by, by, text)
            return False
        self.assertEqual(read_by(by, text), told)
        self.assertEqual(result_of(by, text), as_value(told))
        return True

    def test_its_text(self):
        self.assertLessEqual(len(self_text()), 6000)
        self.assertEqual([char for char in self_text() if char not in all_characters()], [])
        self.assertEqual(write(self_description()), self_text())
        self.assertEqual(read(self_text()), self_description())
        self.assertIs(fits(self_description()), True)

    def test_it_reads_itself(self):
        begun = time.time()
        by = self_description()
        for _ in range(3):
            by = read_by(by, self_text())
            self.assertEqual(by, self_description())
            self.assertTrue(self.reads(FULL, by))
            self.assertTrue(self.reads(LANGUAGE, by))
            self.assertFalse(self.reads(FULL + "x", by))
        self.assertEqual(write(by), self_text())
        self.assertLess(time.time() - begun, 60)

    def test_texts_have_one_tree(self):
        _, grammar, filters, _, _, _, _ = self_description()
        for text in [self_text(), FULL, LANGUAGE]:
            self.assertEqual(count(grammar, filters, text), 1)

    def test_each_kind_of_line(self):
        head = "start a\nrule one a : 'x'\n"
        for line in ["", "rule two a :\n", "rule two a : '' [] {} a\n", "first one one\n", "under one 0 one\n", "stop a []\n", "bar a\n", "bar a '' 'x'\n", "below once a out\n",
                     "below most a n\nbelow all b n\n", "above once a out\n", "eq one out 1\n", "down one 0 out 1\n", "rewrite 1 2\n", "cover 0 ?x :\n", "cover 0 (num ?n) : (li ?out ?n) (a)\n",
                     "rule two a : '\\\\\\'\\\"\\]\\}\\n[{' [\\\\\\'\\\"\\]\\}\\n[{] {\\\\\\'\\\"\\]\\}\\n[{}\n", "bar a '\\\\n'\n"]:
            self.assertTrue(self.reads(head + line + END), line)

    def test_numbers(self):
        for text in ["0", "00", "7", "-0", "-7", "12", "123", "1234", "12345", "123456", "1234567", "12345678", "123456789", "-123456789", "000000001", "-000000000"]:
            for line in ["eq one out #\n", "rewrite # (a #)\n", "cover 1 (num #) : (li #)\n"]:
                self.assertTrue(self.reads("start a\nrule one a :\n" + line.replace("#", text) + END))
            fine = "-" not in text
            for line in ["under one # one\n", "down one # out 1\n", "eq one out $#\n", "eq one out #.n\n", "cover # 1 :\n"]:
                self.assertEqual(self.reads("start a\nrule one a :\n" + line.replace("#", text) + END), fine)
            self.assertEqual(self.reads("start a\nmachine # 1 1 1\n".replace("#", text)), fine)
        for text in ["1234567890", "0000000000", "00000000000000000001", "-1234567890", "-", "--1", "+1", "1-", " ", "a"]:
            for line in ["eq one out #\n", "rewrite # (a #)\n", "cover 1 (num #) : (li #)\n", "under one # one\n", "eq one out #5.n\n", "cover # 1 :\n"]:
                self.assertFalse(self.reads("start a\nrule one a :\n" + line.replace("#", text) + END), line.replace("#", text))

    def test_expressions(self):
        for part in ["1", "\"\"", "\"a\\n\\\"\"", ".a", "1.a", "$", "$1", "(a)", "(a 1)", "(a 1 2 (b) (c 3))", "(!a)", "(!a 1 .b)", "(? 1 2 3)", "(? (a) (? $ $1 .a) (!b))",
                     "(a " * 100 + "1" + ")" * 100, "(? 1 " * 100 + "1" + " 2)" * 100]:
            self.assertTrue(self.reads("start a\nrule one a :\neq one out " + part + "\n" + END))
        for part in ["", "a", "()", "(a", "(a))", "(a  1)", "(a )", "(? 1 2)", "(? 1 2 3 4)", "(?)", "(! a)", ".", "1.", "1.1", "$a", "?a", "1 2", "-1.a", "$-1", "\"a", "a\""]:
            self.assertFalse(self.reads("start a\nrule one a :\neq one out " + part + "\n" + END), part)

    def test_all_characters(self):
        for char in list(all_characters()) + ["%", "\t", "\r", "\\a", "\\0", "\\[", "\\%"]:
            for around in ["rule two a : '#'\n", "rule two a : [#]\n", "rule two a : {#}\n", "bar a '#'\n", "eq one out \"#\"\n", "rewrite \"#\" 1\n"]:
                fine = len(char) == 1 and char in all_characters() and char not in "\n\\'\"]}"
                self.assertEqual(self.reads("start a\nrule one a :\n" + around.replace("#", char) + END), fine, (char, around))

    def test_missing_labels(self):
        head = "start a\nrule one a :\nrule one b :\n"
        for line in ["first one two\n", "first two one\n", "under two 0 one\n", "under one 0 two\n", "eq two out 1\n", "down two 0 out 1\n"]:
            self.assertRaises(DescriptionError, read_by, self_description(), head + line + END)
            self.assertFalse(self.reads(head + line + END))
            self.assertTrue(self.reads(head + line.replace("two", "one") + END))

    def test_labels_that_several_rules_have(self):
        self.assertTrue(self.reads("start a\nrule one a :\nrule two a :\nrule two b :\nrule one b :\nfirst two one\neq two out 1\n" + END))

    def test_texts_by_chance(self):
        chance = random.Random(306)
        for _ in range(150):
            self.assertTrue(self.reads(plain_text(some_description(chance))))

    def test_texts_with_faults_by_chance(self):
        chance = random.Random(3061)
        told = {True: 0, False: 0}
        for _ in range(500):
            text = FULL
            for _ in range(chance.choice([1, 1, 2])):
                text = changed(chance, text)
            told[self.reads(text)] += 1
        self.assertGreater(min(told.values()), 40)

    def test_long_texts(self):
        begun = time.time()
        for text in ["start a\n" + "rule a a : a 'x'\n" * 340 + END, "start a\nrule a a :" + " 'xy' {ab}" * 500 + "\n" + END, "start a\nrule one a :\neq one out (a" + " (b 12)" * 700 + ")\n" + END,
                     "start a\nrule one a :\neq one out \"" + "\\n" * 2500 + "\"\n" + END, "start a\nrule one a : '" + "x" * 5900 + "'\n" + END]:
            self.assertTrue(self.reads(text))
        self.assertLess(time.time() - begun, 60)

    def test_results_are_new(self):
        one = self_description()
        kept = copy.deepcopy(one)
        one[1][2].clear()
        one[3][3].clear()
        self.assertEqual(self_description(), kept)


if __name__ == "__main__":
    unittest.main()
