"""Classes of characters: points 2.1 and 2.2."""

import itertools
import random
import unittest

from scribeself.classes import all_characters, canon, inverse, is_class, minus, split, union

FULL = "\n" + "".join(chr(code) for code in range(32, 127) if code != 37)


class ClassesTest(unittest.TestCase):
    def test_all_characters(self):
        self.assertEqual(all_characters(), FULL)

    def test_canon(self):
        self.assertEqual(canon(""), "")
        self.assertEqual(canon("banana"), "abn")
        self.assertEqual(canon("~ \nA\n"), "\n A~")
        self.assertEqual(canon(FULL[::-1] + FULL), FULL)

    def test_is_class(self):
        for chars in ["", "a", "abz", "\n ~", FULL]:
            self.assertIs(is_class(chars), True, chars)
        for chars in ["aa", "ba", " \n", "%", "$%&", "\t", "\u00e4", "~\x7f", "a\u0100", "aba"]:
            self.assertIs(is_class(chars), False, chars)

    def test_union(self):
        self.assertEqual(union("", ""), "")
        self.assertEqual(union("ac", "bc"), "abc")
        self.assertEqual(union("xyz", "a"), "axyz")
        self.assertEqual(union(FULL, "a"), FULL)
        self.assertEqual(union("", "a\n"[::-1]), "\na")

    def test_minus(self):
        self.assertEqual(minus("", "abc"), "")
        self.assertEqual(minus("abc", ""), "abc")
        self.assertEqual(minus("abcd", "bdx"), "ac")
        self.assertEqual(minus("abc", FULL), "")

    def test_inverse(self):
        self.assertEqual(inverse(""), FULL)
        self.assertEqual(inverse(FULL), "")
        self.assertEqual(inverse("\n"), FULL[1:])
        self.assertEqual(inverse(inverse("abc~")), "abc~")
        self.assertNotIn("%", inverse("abc"))

    def test_split(self):
        self.assertEqual(split([]), [])
        self.assertEqual(split(["", ""]), [])
        self.assertEqual(split(["abc"]), ["abc"])
        self.assertEqual(split(["abc", "bcd"]), ["a", "bc", "d"])
        self.assertEqual(split(["abc", "abc", ""]), ["abc"])
        self.assertEqual(split(["bc", "abcd"]), ["ad", "bc"])
        self.assertEqual(split([FULL, "b"]), sorted(["b", FULL.replace("b", "")]))
        self.assertEqual(split(["az", "zb", "bc", "ca"]), ["a", "b", "c", "z"])

    def test_split_by_definition(self):
        chance = random.Random(1)
        for _ in range(300):
            classes = [canon("".join(chance.choice("abcdef") for _ in range(chance.randint(0, 5))))
                       for _ in range(chance.randint(0, 4))]
            given = list(classes)
            found = split(classes)
            self.assertEqual(classes, given)
            self.assertEqual(found, sorted(found))
            self.assertEqual(sorted("".join(found)), sorted(set("".join(classes))))
            for chars in found:
                self.assertTrue(is_class(chars) and chars)
            owner = {char: chars for chars in found for char in chars}
            for one, two in itertools.combinations(owner, 2):
                alike = all((one in chars) == (two in chars) for chars in classes)
                self.assertEqual(owner[one] == owner[two], alike)

    def test_results_are_not_shared(self):
        classes = ["ab", "bc"]
        split(classes).clear()
        self.assertEqual(split(classes), ["a", "b", "c"])


if __name__ == "__main__":
    unittest.main()
