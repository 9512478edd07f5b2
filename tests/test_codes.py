"""Words and objects: points 26.1 to 26.6."""

import copy
import random
import unittest

from lists import some_list
from scribeself.codes import assemble, decode, disassemble, encode, offsets, size
from scribeself.errors import MachineError, TrapError
from scribeself.machines import play

NUMBERS = [0, 1, -1, 524287, 524288, -524288, -524289, 1048575, 1048576, 2147483647, -2147483648, -524801]
HALT = 14 * 2 ** 24


def fields(first, second, third):
    return first * 2 ** 24 + second * 2 ** 20 + third


def plain_words(part, address):
    """The table of point 26.2."""
    kind = part[0]
    if kind == "li" and -524288 <= part[2] <= 524287:
        return [fields(1, part[1], part[2] if part[2] >= 0 else part[2] + 1048576)]
    if kind == "li":
        return [fields(2, part[1], 0), part[2] if part[2] >= 0 else part[2] + 4294967296]
    if kind == "op":
        return [fields({"add": 4, "sub": 5, "mul": 6, "less": 7, "same": 8}[part[1]], part[2], part[3] * 65536 + part[4] * 4096)]
    return {"label": lambda: [], "mov": lambda: [fields(3, part[1], part[2] * 65536)], "ld": lambda: [fields(9, part[1], part[2])],
            "st": lambda: [fields(10, part[1], part[2])], "show": lambda: [fields(11, part[1], 0)], "jz": lambda: [fields(12, part[1], address)],
            "jump": lambda: [fields(13, 0, address)], "halt": lambda: [fields(14, 0, 0)]}[kind]()


def each_instruction():
    for d in (0, 1, 7, 15):
        yield from [("li", d, n) for n in NUMBERS]
        for s in (0, 1, 15):
            yield ("mov", d, s)
            yield from [("op", name, d, s, b) for name in ["add", "sub", "mul", "less", "same"] for b in (0, 3, 15)]
        yield from [(kind, d, slot) for kind in ("ld", "st") for slot in (0, 1, 63)]
        yield from [("show", d)] + [("jz", d, label) for label in (0, 5, 1048575)]
    yield from [("jump", 0), ("jump", 1048575), ("halt",)]


class WordsTest(unittest.TestCase):
    def traps(self, at, call, *args):
        with self.assertRaises(TrapError) as caught:
            call(*args)
        self.assertEqual(caught.exception.at, at)

    def test_example(self):
        self.assertEqual(encode(("op", "sub", 1, 2, 3), 0), [85078016])
        self.assertEqual(encode(("li", 0, -1), 0), [17825791])
        self.assertEqual(decode([33554432, 4294442495], 0), (("li", 0, -524801), 2))

    def test_each_instruction_and_back(self):
        for part in each_instruction():
            address = part[-1] if part[0] in ("jump", "jz") else 77
            words = encode(part, address)
            self.assertEqual(words, plain_words(part, address))
            self.assertEqual(size(part), len(words))
            self.assertTrue(all(0 <= word < 2 ** 32 for word in words))
            self.assertEqual(decode(words, 0), (part, len(words)))
            self.assertEqual(decode([HALT] + words + [HALT], 1), (part, len(words) + 1))

    def test_addresses_of_labels(self):
        self.assertEqual(encode(("jump", "far"), 3), [fields(13, 0, 3)])
        self.assertEqual(encode(("jz", 2, 99), 1048575), [fields(12, 2, 1048575)])
        self.assertEqual(encode(("show", 2), 9), encode(("show", 2), 0))
        self.assertEqual((encode(("label", 3), 9), encode(("label", "a"), 0)), ([], []))

    def test_sizes(self):
        self.assertEqual((size(("label", 0)), size(("label", "a")), size(("halt",)), size(("jz", 9999, "a"))), (0, 0, 1, 1))
        self.assertEqual([size(("li", 9999, n)) for n in (-524289, -524288, 524287, 524288)], [2, 1, 1, 2])
        self.assertEqual(offsets([("label", 0), ("li", 900, 2 ** 20), ("label", "a"), ("show", 9999)]), [0, 0, 2, 2, 3])
        self.assertEqual(offsets([]), [0])

    def test_words_that_are_no_instruction(self):
        wrong = [0, 1048576, 2 ** 24 - 1, fields(0, 3, 5), fields(15, 0, 0), fields(16, 0, 0), fields(255, 15, 1048575), fields(17, 0, 0), fields(30, 0, 0),
                 fields(3, 0, 1), fields(3, 2, 65535), fields(3, 2, 65536 + 4096), fields(4, 0, 1), fields(8, 15, 4095), fields(6, 1, 65536 + 4096 + 2048),
                 fields(9, 0, 64), fields(10, 0, 64), fields(9, 3, 1048575), fields(11, 0, 1), fields(11, 4, 65536), fields(13, 1, 0), fields(13, 15, 4),
                 fields(14, 0, 1), fields(14, 1, 0), fields(2, 0, 1), fields(2, 3, 1048575)]
        for word in wrong:
            self.traps(0, decode, [word], 0)
            self.traps(1, decode, [HALT, word, HALT], 1)

    def test_long_numbers(self):
        self.traps(0, decode, [fields(2, 0, 0)], 0)
        self.assertEqual(decode([fields(2, 3, 0), 524288, 0], 0), (("li", 3, 524288), 2))
        self.assertEqual(decode([fields(2, 3, 0), 2147483648], 0), (("li", 3, -2147483648), 2))
        # What fits into one word does not stand in two.
        for n in [0, 7, 524287, 4294967295, 4294967296 - 524288]:
            self.traps(0, decode, [fields(2, 3, 0), n], 0)
        self.traps(1, decode, [fields(2, 3, 0), 524288, HALT], 1)
        # In the middle of a "li" there may stand another instruction.
        self.assertEqual(decode([fields(2, 3, 0), HALT], 1), (("halt",), 2))

    def test_addresses_outside(self):
        for at in [-1, -2, 1, 2, 10 ** 9, -10 ** 9]:
            self.traps(at, decode, [HALT], at)
        self.traps(0, decode, [], 0)

    def test_words_by_chance(self):
        chance = random.Random(261)
        fine = {}
        for part in each_instruction():
            fine[tuple(plain_words(part, part[-1]))] = part
        for _ in range(20000):
            word = chance.randrange(16) * 2 ** 24 + chance.randrange(16) * 2 ** 20 + chance.choice([0, chance.randrange(70), chance.randrange(16) * 65536, chance.randrange(2 ** 20),
                                                                                                    chance.randrange(256) * 4096])
            words = [word, chance.choice([0, chance.randrange(2 ** 32)])]
            try:
                part, after = decode(words, 0)
            except TrapError:
                for many in (1, 2):
                    self.assertNotIn(tuple(words[:many]), fine)
            else:
                self.assertEqual(plain_words(part, part[-1]), words[:after])


class AssembleTest(unittest.TestCase):
    def test_example(self):
        self.assertEqual(assemble([("label", "main"), ("jz", 1, 4), ("jump", "other"), ("label", 4)]),
                         ("object", [202375170, 218103808, 234881024], [("main", 0)], [(0, ""), (1, "other")]))

    def test_labels(self):
        self.assertEqual(assemble([]), ("object", [HALT], [], []))
        told = [("jump", "b"), ("li", 0, 2 ** 30), ("label", "b"), ("jz", 3, "a"), ("label", 1048575), ("label", "a"), ("jump", 1048575), ("jump", "out"), ("label", "zz")]
        self.assertEqual(assemble(told), ("object", [fields(13, 0, 3), fields(2, 0, 0), 2 ** 30, fields(12, 3, 4), fields(13, 0, 4), fields(13, 0, 0), HALT],
                                          [("a", 4), ("b", 3), ("zz", 6)], [(0, ""), (3, ""), (4, ""), (5, "out")]))

    def test_the_last_halt(self):
        self.assertEqual(assemble([("halt",)])[1], [HALT, HALT])
        self.assertEqual(assemble([("jump", 0), ("label", 0)])[1], [fields(13, 0, 1), HALT])

    def test_invalid_lists(self):
        for told, at in [([("show", 15), ("show", 16)], 1), ([("jump", 3)], 0), ([("label", 3), ("label", "a"), ("label", 3)], 2), ([("halt",), ("li", 0, 2 ** 31)], 1),
                         ([("mov", 16, 0), ("nothing",)], 0), ([("ld", 0, 64)], 0)]:
            with self.assertRaises(MachineError) as caught:
                assemble(told)
            self.assertEqual(caught.exception.at, at)

    def test_lists_by_chance(self):
        chance = random.Random(265)
        for _ in range(300):
            told = some_list(chance, chance.randint(1, 30), 16)
            kind, words, symbols, relocations = assemble(told)
            known = offsets(told)
            self.assertEqual((kind, len(words), words[-1]), ("object", known[-1] + 1, HALT))
            places = {part[1]: known[at] for at, part in enumerate(told) if part[0] == "label"}
            self.assertEqual(symbols, sorted((label, at) for label, at in places.items() if isinstance(label, str)))
            told_relocations = []
            for at, part in enumerate(told):
                self.assertEqual(words[known[at]:known[at + 1]], plain_words(part, places.get(part[-1], 0)))
                if part[0] in ("jump", "jz"):
                    told_relocations.append((known[at], "" if part[-1] in places else part[-1]))
            self.assertEqual(relocations, told_relocations)


class DisassembleTest(unittest.TestCase):
    def traps(self, words, at):
        with self.assertRaises(TrapError) as caught:
            disassemble(words)
        self.assertEqual(caught.exception.at, at)

    def test_example(self):
        self.assertEqual(disassemble([218103808]), [("label", 0), ("jump", 0)])

    def test_labels(self):
        words = [fields(2, 1, 0), 2 ** 20, fields(12, 1, 0), fields(12, 1, 5), fields(11, 2, 0), fields(13, 0, 0), HALT]
        self.assertEqual(disassemble(words), [("label", 0), ("li", 1, 2 ** 20), ("jz", 1, 0), ("jz", 1, 5), ("show", 2), ("label", 5), ("jump", 0), ("halt",)])
        self.assertEqual(disassemble([HALT]), [("halt",)])

    def test_faults(self):
        self.traps([], 0)
        self.traps([0], 0)
        self.traps([HALT, HALT, 7, HALT], 2)
        self.traps([HALT, fields(2, 0, 0)], 1)
        self.traps([fields(2, 0, 0), 2 ** 20, 7], 2)
        # Labels that are not there, or in the middle of an instruction.
        self.traps([HALT, fields(13, 0, 2)], 1)
        self.traps([fields(12, 0, 2), fields(13, 0, 9), HALT], 1)
        self.traps([fields(2, 0, 0), 2 ** 20, HALT, fields(12, 0, 2), fields(12, 0, 1), fields(13, 0, 1)], 4)
        # The last instruction.
        self.traps([fields(11, 0, 0)], 1)
        self.traps([HALT, fields(2, 0, 0), 2 ** 20], 3)
        self.traps([HALT, fields(12, 0, 0)], 2)
        self.assertEqual(disassemble([fields(13, 0, 0)]), [("label", 0), ("jump", 0)])

    def test_which_fault_is_told(self):
        self.traps([fields(13, 0, 9), fields(11, 0, 0), 7], 2)
        self.traps([fields(13, 0, 9), fields(11, 0, 0)], 0)
        self.traps([fields(13, 0, 9), 7, 7, HALT], 1)

    def test_there_and_back(self):
        chance = random.Random(266)
        for _ in range(300):
            told = some_list(chance, chance.randint(1, 30), 16, (0, 7, 9))
            words = assemble(told)[1]
            found = disassemble(words)
            self.assertEqual(assemble(found)[1][:-1], words)
            self.assertEqual(disassemble(assemble(found)[1]), found + [("halt",)])
            try:
                one = play(told, 200)
            except Exception:
                continue
            self.assertEqual(play(found, 200), one)

    def test_arguments_stay_and_results_are_new(self):
        told = [("label", "a"), ("jz", 0, 3), ("jump", "b"), ("label", 3), ("li", 3, 2 ** 30)]
        before = copy.deepcopy(told)
        for call in [assemble, offsets, lambda given: disassemble(assemble(given[3:])[1])]:
            found = call(told)
            kept = copy.deepcopy(found)
            for part in found if isinstance(found, tuple) else []:
                if isinstance(part, list):
                    part.clear()
            if isinstance(found, list):
                found.clear()
            self.assertEqual(call(told), kept)
            self.assertEqual(told, before)
        words = [HALT]
        decode(words, 0)
        disassemble(words).clear()
        encode(told[1], 3).clear()
        self.assertEqual((words, disassemble(words), encode(told[1], 3)), ([HALT], [("halt",)], [fields(12, 0, 3)]))


if __name__ == "__main__":
    unittest.main()
