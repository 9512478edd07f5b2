"""Edits: points 7.1 to 7.3."""

import random
import unittest

from oracles import some_text
from scribeself.edits import applied, difference, inverse_of, joined, moved
from scribeself.errors import EditError

MISFITS = [(-1, 0, "x"), (0, -1, "x"), (5, 0, "x"), (4, 1, ""), (0, 5, ""), (2, 3, "x"), (6, -2, ""), (-1, 2, "")]


def some_edit(chance, text):
    at = chance.randint(0, len(text))
    return at, chance.randint(0, len(text) - at), some_text(chance, 3, "abc")


class AppliedTest(unittest.TestCase):
    def test_applied(self):
        self.assertEqual(applied("abcd", (0, 0, "x")), "xabcd")
        self.assertEqual(applied("abcd", (4, 0, "xy")), "abcdxy")
        self.assertEqual(applied("abcd", (1, 2, "x")), "axd")
        self.assertEqual(applied("abcd", (0, 4, "")), "")
        self.assertEqual(applied("abcd", (3, 1, "")), "abc")
        self.assertEqual(applied("abcd", (2, 0, "")), "abcd")
        self.assertEqual(applied("", (0, 0, "x")), "x")

    def test_misfits(self):
        for edit in MISFITS:
            for function in [applied, inverse_of]:
                with self.assertRaises(EditError):
                    function("abcd", edit)
            with self.assertRaises(EditError):
                joined("abcd", edit, (0, 0, ""))
            with self.assertRaises(EditError):
                joined("abcde", (0, 1, ""), edit)
        with self.assertRaises(EditError):
            applied("", (0, 1, ""))

    def test_inverse_of(self):
        self.assertEqual(inverse_of("abcd", (1, 2, "xyz")), (1, 3, "bc"))
        self.assertEqual(inverse_of("abcd", (4, 0, "x")), (4, 1, ""))
        self.assertEqual(inverse_of("abcd", (0, 4, "")), (0, 0, "abcd"))

    def test_inverse_leads_back(self):
        chance = random.Random(7)
        for _ in range(200):
            text = some_text(chance, 5, "abc")
            edit = some_edit(chance, text)
            back = inverse_of(text, edit)
            self.assertEqual(applied(applied(text, edit), back), text)
            self.assertEqual(inverse_of(applied(text, edit), back), edit)


class MovedTest(unittest.TestCase):
    def both(self, edit, position):
        return moved(edit, position, False), moved(edit, position, True)

    def test_replaced_stretch(self):
        edit = (3, 2, "wxyz")
        self.assertEqual([self.both(edit, position) for position in range(8)],
                         [(0, 0), (1, 1), (2, 2), (3, 3), (3, 7), (7, 7), (8, 8), (9, 9)])

    def test_nothing_put_in(self):
        edit = (1, 3, "")
        self.assertEqual([self.both(edit, position) for position in range(6)],
                         [(0, 0), (1, 1), (1, 1), (1, 1), (1, 1), (2, 2)])

    def test_nothing_removed(self):
        edit = (2, 0, "xyz")
        self.assertEqual([self.both(edit, position) for position in range(4)], [(0, 0), (1, 1), (2, 5), (6, 6)])
        self.assertEqual(self.both((0, 0, "x"), 0), (0, 1))
        self.assertEqual(self.both((2, 0, ""), 2), (2, 2))

    def test_one_removed(self):
        self.assertEqual([self.both((0, 1, "ab"), position) for position in range(3)], [(0, 0), (2, 2), (3, 3)])


class DifferenceTest(unittest.TestCase):
    def test_difference(self):
        self.assertEqual(difference("", ""), (0, 0, ""))
        self.assertEqual(difference("abc", "abc"), (3, 0, ""))
        self.assertEqual(difference("abc", "abxc"), (2, 0, "x"))
        self.assertEqual(difference("abxc", "abc"), (2, 1, ""))
        self.assertEqual(difference("abc", "xyz"), (0, 3, "xyz"))
        self.assertEqual(difference("", "xy"), (0, 0, "xy"))
        self.assertEqual(difference("xy", ""), (0, 2, ""))
        self.assertEqual(difference("a-b", "a+b"), (1, 1, "+"))

    def test_beginning_and_end_overlap(self):
        self.assertEqual(difference("aa", "aaa"), (2, 0, "a"))
        self.assertEqual(difference("aaa", "aa"), (2, 1, ""))
        self.assertEqual(difference("abab", "ab"), (2, 2, ""))
        self.assertEqual(difference("ab", "abab"), (2, 0, "ab"))
        self.assertEqual(difference("aba", "a"), (1, 2, ""))
        self.assertEqual(difference("xabcay", "xay"), (2, 3, ""))

    def test_leads_there(self):
        chance = random.Random(8)
        for _ in range(500):
            first, second = some_text(chance, 5), some_text(chance, 5)
            edit = difference(first, second)
            self.assertEqual(applied(first, edit), second)
            at, removed, new = edit
            longest = max(k for k in range(min(len(first), len(second)) + 1) if first[:k] == second[:k])
            self.assertEqual(at, longest)
            rest, other = first[longest:], second[longest:]
            end = max(k for k in range(min(len(rest), len(other)) + 1) if rest[len(rest) - k:] == other[len(other) - k:])
            self.assertEqual(removed, len(rest) - end)


class JoinedTest(unittest.TestCase):
    def test_apart(self):
        self.assertEqual(joined("abcdefgh", (1, 1, "XY"), (6, 2, "Z")), (1, 6, "XYcdeZ"))
        self.assertEqual(joined("abcdefgh", (6, 1, "XY"), (1, 2, "")), (1, 6, "defXY"))
        self.assertEqual(joined("abcd", (0, 1, ""), (2, 0, "x")), (0, 3, "bcx"))

    def test_touching(self):
        self.assertEqual(joined("abcd", (1, 1, "XY"), (3, 1, "Z")), (1, 2, "XYZ"))
        self.assertEqual(joined("abcd", (1, 1, "XY"), (0, 1, "Z")), (0, 2, "ZXY"))
        self.assertEqual(joined("abcd", (2, 0, "X"), (2, 0, "Y")), (2, 0, "YX"))
        self.assertEqual(joined("abcd", (2, 0, "X"), (3, 0, "Y")), (2, 0, "XY"))
        self.assertEqual(joined("abcd", (1, 2, ""), (1, 0, "Y")), (1, 2, "Y"))
        self.assertEqual(joined("abcd", (1, 2, ""), (1, 1, "Y")), (1, 3, "Y"))
        self.assertEqual(joined("abcd", (1, 2, ""), (0, 1, "Y")), (0, 3, "Y"))

    def test_overlapping(self):
        self.assertEqual(joined("abcd", (1, 1, "XYZ"), (2, 1, "-")), (1, 1, "X-Z"))
        self.assertEqual(joined("abcd", (1, 1, "XYZ"), (3, 2, "-")), (1, 2, "XY-"))
        self.assertEqual(joined("abcd", (2, 1, "XYZ"), (1, 2, "-")), (1, 2, "-YZ"))
        self.assertEqual(joined("abcd", (1, 2, "XYZ"), (0, 5, "-")), (0, 4, "-"))
        self.assertEqual(joined("abcd", (2, 0, "XYZ"), (2, 3, "")), (2, 0, ""))

    def test_nothing(self):
        self.assertEqual(joined("abcd", (1, 0, ""), (3, 0, "")), (1, 2, "bc"))
        self.assertEqual(joined("", (0, 0, ""), (0, 0, "")), (0, 0, ""))

    def test_does_what_both_do(self):
        chance = random.Random(9)
        for _ in range(2000):
            text = some_text(chance, 6, "abc")
            first = some_edit(chance, text)
            middle = applied(text, first)
            second = some_edit(chance, middle)
            edit = joined(text, first, second)
            self.assertEqual(applied(text, edit), applied(middle, second))
            # By following each character of the text: its stretch is as long as what the edits touch asks for.
            at, removed, new = first
            origins = list(range(at)) + [None] * len(new) + list(range(at + removed, len(text)))
            touched = list(range(at, at + removed))
            touched += [k for k in origins[second[0]:second[0] + second[1]] if k is not None]
            left = [k for k in origins[:second[0]] if k is not None]
            borders = [at, at + removed]
            if not (at <= second[0] <= at + len(new)):
                borders.append(left[-1] + 1 if left else 0)
            self.assertEqual(edit[0], min(touched + borders))
            self.assertEqual(edit[0] + edit[1], max([k + 1 for k in touched] + borders))


if __name__ == "__main__":
    unittest.main()
