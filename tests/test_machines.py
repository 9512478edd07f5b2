"""Machines and lists of instructions: points 21.1 to 21.6."""

import copy
import random
import unittest

from lists import OPERATIONS, PlainPlay, some_list
from scribeself.errors import FuelError, MachineError, TrapError
from scribeself.machines import (check_list, format_instruction, format_list, is_machine, latency, observe_list, parse_instruction, parse_list, play,
                                 reads, slot_read, slot_written, target, writes)

LEAST, MOST = -2147483648, 2147483647
LONG = "abcdefghij012345"
COUNT = [("li", 0, 2), ("li", 1, 1), ("label", 5), ("jz", 0, 6), ("show", 0), ("op", "sub", 0, 0, 1), ("jump", 5), ("label", 6)]
SLOTS = [0] * 64

# An instruction of each kind, with its line, what it reads and writes, the slots, and the label.
TABLE = [
    (("li", 3, -7), "li r3 -7", [], [3], None, None, None),
    (("mov", 4, 2), "mov r4 r2", [2], [4], None, None, None),
    (("op", "add", 2, 0, 1), "add r2 r0 r1", [0, 1], [2], None, None, None),
    (("op", "sub", 0, 5, 3), "sub r0 r5 r3", [3, 5], [0], None, None, None),
    (("op", "mul", 1, 1, 1), "mul r1 r1 r1", [1], [1], None, None, None),
    (("op", "less", 9999, 10, 9), "less r9999 r10 r9", [9, 10], [9999], None, None, None),
    (("op", "same", 0, 0, 2), "same r0 r0 r2", [0, 2], [0], None, None, None),
    (("ld", 6, 63), "ld r6 [63]", [], [6], 63, None, None),
    (("st", 6, 0), "st r6 [0]", [6], [], None, 0, None),
    (("show", 12), "show r12", [12], [], None, None, None),
    (("jz", 12, 7), "jz r12 L7", [12], [], None, None, 7),
    (("jz", 0, "out"), "jz r0 out", [0], [], None, None, "out"),
    (("jump", 1048575), "jump L1048575", [], [], None, None, 1048575),
    (("jump", LONG), "jump " + LONG, [], [], None, None, LONG),
    (("label", 0), "L0:", [], [], None, None, None),
    (("label", "l0"), "l0:", [], [], None, None, None),
    (("halt",), "halt", [], [], None, None, None),
    (("op", "add", 8, 8, 1), "add r8 r8 r1", [1, 8], [8], None, None, None),
]


class MachineTest(unittest.TestCase):
    def test_machines(self):
        for value in [("machine", 2, 1, 1, 1), ("machine", 8, 9, 9, 9), ("machine", 4, 3, 2, 1)]:
            self.assertIs(is_machine(value), True)

    def test_what_is_no_machine(self):
        for value in [None, True, False, 1, "machine", "", (), [], ("machine",), ("machine", 4, 3, 2), ("machine", 4, 3, 2, 1, 1), ["machine", 4, 3, 2, 1],
                      ("machines", 4, 3, 2, 1), (None, 4, 3, 2, 1), (["machine"], 4, 3, 2, 1), ("machine", 1, 3, 2, 1), ("machine", 9, 3, 2, 1),
                      ("machine", 4, 0, 2, 1), ("machine", 4, 10, 2, 1), ("machine", 4, 3, 0, 1), ("machine", 4, 3, 10, 1), ("machine", 4, 3, 2, 0),
                      ("machine", 4, 3, 2, 10), ("machine", 4, 3, 2, -1), ("machine", "4", 3, 2, 1), ("machine", 4, None, 2, 1), ("machine", 4, 3, [2], 1),
                      ("machine", 4, 3, 2, (1,)), ("machine", True, 3, 2, 1), ("machine", 4, True, 2, 1), ("machine", 4, 3, True, 1), ("machine", 4, 3, 2, True)]:
            self.assertIs(is_machine(value), False, value)

    def test_latency(self):
        machine = ("machine", 4, 3, 7, 2)
        for instruction, _, _, _, slot, _, _ in TABLE:
            told = 3 if slot is not None else 7 if instruction[:2] == ("op", "mul") else 2
            self.assertEqual(latency(machine, instruction), told)


class CheckTest(unittest.TestCase):
    def wrong(self, at, instructions, registers=None):
        with self.assertRaises(MachineError) as caught:
            check_list(instructions, registers)
        self.assertEqual(caught.exception.at, at)

    def test_right_lists(self):
        self.assertIsNone(check_list([], None))
        self.assertIsNone(check_list(COUNT, None))
        self.assertIsNone(check_list(COUNT, 2))
        self.assertIsNone(check_list([part for part, _, _, _, _, _, _ in TABLE] + [("label", 7), ("label", 1048575), ("label", LONG)], None))
        self.assertIsNone(check_list([("jump", "none"), ("jz", 0, "none"), ("li", 0, LEAST), ("li", 0, MOST), ("jump", 3), ("label", 3), ("label", "a3")], 1))
        self.assertIsNone(check_list([("mov", 9999, 0)], 10000))

    def test_what_is_no_instruction(self):
        for value in [None, True, 1, "halt", "", (), [], ["halt"], ("halt", 1), ("Halt",), (None,), (True,), (("halt",),), (["halt"],), ("nop",), ("add", 0, 0, 0),
                      ("li",), ("li", 0), ("li", 0, 1, 2), ["li", 0, 1], ("li", 0, MOST + 1), ("li", 0, LEAST - 1), ("li", 0, "1"), ("li", 0, True),
                      ("li", 0, None), ("li", "0", 1), ("li", -1, 1), ("li", 10000, 1), ("li", True, 1), ("li", False, 1), ("li", None, 1), ("li", [0], 1),
                      ("mov", 0), ("mov", 0, -1), ("mov", -1, 0), ("mov", 0, 10000), ("mov", 10000, 0), ("mov", 0, True), ("mov", 0, 1, 2),
                      ("op", "add", 0, 0), ("op", "add", 0, 0, 0, 0), ("op", "div", 0, 0, 0), ("op", "Add", 0, 0, 0), ("op", "", 0, 0, 0), ("op", None, 0, 0, 0),
                      ("op", ["add"], 0, 0, 0), ("op", 0, 0, 0), ("op", "add", -1, 0, 0), ("op", "add", 0, 10000, 0), ("op", "add", 0, 0, None),
                      ("ld", 0, 64), ("ld", 0, -1), ("ld", 10000, 0), ("ld", 0, True), ("ld", 0, "0"), ("ld", 0), ("st", 0, 64), ("st", 0, -1), ("st", 10000, 0),
                      ("st", 0), ("st", 0, 0, 0), ("show",), ("show", 10000), ("show", -1), ("show", 0, 0), ("show", "r0"), ("jz", 0), ("jz", 10000, 5),
                      ("jz", 0, 5, 5), ("jz", 5, 0, "a"), ("jump",), ("jump", 5, 5), ("jump", -1), ("jump", 1048576), ("jump", True), ("jump", None), ("jump", ""),
                      ("jump", "A"), ("jump", "1a"), ("jump", "a_b"), ("jump", LONG + "x"), ("jump", "a b"), ("jump", ("a",)), ("jump", ["a"]), ("jz", 0, "L5"),
                      ("jz", 0, True), ("jz", 0, 1048576), ("label",), ("label", -1), ("label", 1048576), ("label", "X"), ("label", ""), ("label", None),
                      ("label", True), ("label", LONG + "x"), ("label", [1]), ("label", 1, 1)]:
            self.wrong(0, [value, ("label", 5)])
            self.wrong(2, [("halt",), ("label", 5), value, None])

    def test_real_registers(self):
        for at, instruction in enumerate([("li", 3, 0), ("mov", 3, 0), ("mov", 0, 3), ("op", "add", 3, 0, 0), ("op", "add", 0, 3, 0), ("op", "add", 0, 0, 3),
                                          ("ld", 3, 0), ("st", 3, 0), ("show", 3), ("jz", 3, "a")]):
            self.wrong(at, [("halt",)] * at + [instruction], 3)
            self.assertIsNone(check_list([("halt",)] * at + [instruction], 4))
            self.assertIsNone(check_list([instruction], None))
            self.wrong(0, [instruction], 1)

    def test_labels(self):
        self.wrong(1, [("label", 5), ("label", 5)])
        self.wrong(3, [("label", "a"), ("label", 5), ("halt",), ("label", "a"), ("label", 5)])
        self.wrong(0, [("jump", 6), ("label", 5), ("label", "a6")])
        self.wrong(2, [("jump", "b"), ("jz", 0, 5), ("jz", 0, 6), ("label", 5)])
        self.assertIsNone(check_list([("jump", 0), ("label", 0), ("label", 1), ("jz", 0, 1)], None))
        # A label that stands in no instruction is not placed; and one that is True is no label.
        self.wrong(0, [("jump", 1048576), ("label", 1048576)])
        self.wrong(0, [("jump", 1), ("label", True)])
        self.wrong(1, [("label", 1), ("label", True)])

    def test_the_least_index(self):
        faults = [("jump", 77), ("label", 5), ("li", 0), ("show", 99)]
        for first in faults:
            for second in faults:
                self.wrong(1, [("label", 5), first, ("halt",), second], 50)


class PartsTest(unittest.TestCase):
    def test_table(self):
        for instruction, _, read, written, slot, other, label in TABLE:
            self.assertEqual((reads(instruction), writes(instruction)), (read, written), instruction)
            self.assertEqual((slot_read(instruction), slot_written(instruction), target(instruction)), (slot, other, label), instruction)

    def test_results_are_new(self):
        for instruction, _, read, written, _, _, _ in TABLE:
            reads(instruction).append(5)
            writes(instruction).append(5)
            self.assertEqual((reads(instruction), writes(instruction)), (read, written))


class LinesTest(unittest.TestCase):
    def wrong(self, line):
        with self.assertRaises(MachineError) as caught:
            parse_instruction(line)
        self.assertEqual(caught.exception.at, 0)

    def test_example(self):
        self.assertEqual(format_instruction(("op", "sub", 0, 0, 1)), "sub r0 r0 r1")
        self.assertEqual(parse_instruction("jz r12 L7"), ("jz", 12, 7))

    def test_table(self):
        for instruction, line, _, _, _, _, _ in TABLE:
            self.assertEqual(format_instruction(instruction), line)
            self.assertEqual(parse_instruction(line), instruction)
            self.assertIsInstance(parse_instruction(line), tuple)

    def test_words_that_are_names(self):
        for word in ["li", "mov", "op", "add", "same", "ld", "st", "show", "jz", "jump", "label", "halt", "r0", "l5"]:
            for instruction, line in [(("label", word), word + ":"), (("jump", word), "jump " + word), (("jz", 3, word), "jz r3 " + word)]:
                self.assertEqual(format_instruction(instruction), line)
                self.assertEqual(parse_instruction(line), instruction)

    def test_numbers(self):
        for n in [0, 1, -1, 10, 100, MOST, LEAST]:
            self.assertEqual(format_instruction(("li", 0, n)), "li r0 " + str(n))
            self.assertEqual(parse_instruction("li r0 " + str(n)), ("li", 0, n))
        for word in ["-0", "00", "01", "-01", "+1", "--1", "1-", "-", "", "1_0", " 1", "0x1", "1.0", str(MOST + 1), str(LEAST - 1), "9" * 5000, "-" + "0" * 40, "a",
                     "r1", "L1", "[1]"]:
            self.wrong("li r0 " + word)

    def test_other_words(self):
        for word in ["r", "r00", "r01", "r-1", "r+1", "r10000", "R0", "0", "r0 ", "r1r", "rr1", "r" + "1" * 4400, "r1_0", "rx", "r1x", "ra", "[0]", "L0", "x", ""]:
            self.wrong("show " + word)
            self.wrong("jz " + word + " a")
            self.wrong("add r0 r0 " + word)
        for word in ["[]", "[64]", "[-1]", "[00]", "[01]", "[+1]", "0", "[0", "0]", "[[0]]", "[ 0]", "(0)", "[0]]", "r0", "[a]", "[x]", "[1x]", "", "[", "]"]:
            self.wrong("ld r0 " + word)
            self.wrong("st r0 " + word)
        for word in ["L", "L00", "L05", "L-1", "L+1", "L1048576", "l 5", "5", "LL5", "L5L", "A", "aB", "a_", LONG + "x", "a:", "[a]", "", "La", "Lx", "L1x"]:
            self.wrong("jump " + word)
            self.wrong("jz r0 " + word)
            self.wrong(word + ":")

    def test_too_much_and_too_few(self):
        for _, line, _, _, _, _, _ in TABLE:
            for wrong in [line + " ", " " + line, line + " r0", line + " :", line.upper() + ":", line + "\\"]:
                self.wrong(wrong)
            if " " in line:
                self.wrong(line.replace(" ", "  ", 1))
                self.wrong(line + ":")
                self.wrong(line[:line.rindex(" ")])
        for line in ["", " ", ":", "::", "a::", "a :", "L5 :", "a b:", "label a", "label L5", "op add r0 r0 r0", "op r0 r0 r0", "op", "label", "add", "li", "li r0",
                     "mov r0", "ld r0", "st [0]", "show", "jz r0", "jump", "halt r0", "nop", "Halt", "jz L7 r12", "li 3 r0", "ld [0] r0", "a", "L5", "r0", "5:"]:
            self.wrong(line)

    def test_each_character_counts(self):
        chance = random.Random(216)
        for _, line, _, _, _, _, _ in TABLE:
            for _ in range(120):
                at = chance.randrange(len(line) + 1)
                char = chance.choice("0159rL:[]- aZ~_+")
                for other in [line[:at] + char + line[at:], line[:at] + line[at + 1:], line[:at] + char + line[at + 1:]]:
                    try:
                        self.assertEqual(format_instruction(parse_instruction(other)), other)
                    except MachineError:
                        pass


class TextTest(unittest.TestCase):
    def wrong(self, at, text):
        with self.assertRaises(MachineError) as caught:
            parse_list(text)
        self.assertEqual(caught.exception.at, at)

    def test_texts(self):
        self.assertEqual(format_list([]), "")
        self.assertEqual(parse_list(""), [])
        text = "".join(line + "\n" for _, line, _, _, _, _, _ in TABLE)
        told = [instruction for instruction, _, _, _, _, _, _ in TABLE]
        self.assertEqual(format_list(told), text)
        self.assertEqual(parse_list(text), told)

    def test_lists_that_are_not_valid(self):
        text = "jump L3\nL5:\nL5:\n"
        self.assertEqual(parse_list(text), [("jump", 3), ("label", 5), ("label", 5)])

    def test_the_first_line_that_is_wrong(self):
        for at, text in [(0, "x\n"), (0, "halt"), (0, "x"), (0, "\n"), (1, "halt\n\n"), (1, "halt\n\nhalt\n"), (1, "halt\nhalt"), (1, "halt\nx\nx\nhalt"), (2, "halt\nhalt\nx"),
                         (0, " \n"), (1, "halt\n "), (0, "halt \nhalt"), (0, "\nhalt\n"), (0, "\n\n"), (0, "halt\thalt\n"), (2, "a:\nb:\nb\nc:\n")]:
            self.wrong(at, text)

    def test_lists_by_chance(self):
        chance = random.Random(21)
        for _ in range(100):
            told = some_list(chance, chance.randint(0, 30), 10000)
            self.assertIsNone(check_list(told, None))
            self.assertEqual(parse_list(format_list(told)), told)


class PlayTest(unittest.TestCase):
    def test_example(self):
        self.assertEqual(play(COUNT, 12), ([2, 1], SLOTS, 12))
        self.assertEqual(observe_list(COUNT, 4), ("fuel", [2]))

    def test_the_fuel(self):
        self.assertRaises(FuelError, play, COUNT, 11)
        self.assertEqual(play(COUNT, 100)[2], 12)
        self.assertEqual(observe_list(COUNT, 12), ("halt", [2, 1]))
        self.assertEqual(observe_list(COUNT, 11), ("fuel", [2, 1]))
        self.assertEqual(observe_list(COUNT, 0), ("fuel", []))

    def test_the_end(self):
        for instructions in [[], [("halt",)], [("label", 0)], [("label", 0), ("label", "a"), ("halt",), ("show", 0)]]:
            self.assertEqual(play(instructions, 1), ([], SLOTS, 1))
            self.assertRaises(FuelError, play, instructions, 0)
            self.assertEqual(observe_list(instructions, 1), ("halt", []))
            self.assertEqual(observe_list(instructions, 0), ("fuel", []))

    def test_registers_and_slots_are_0_at_the_beginning(self):
        self.assertEqual(play([("show", 9999), ("ld", 5, 63), ("show", 5), ("mov", 5, 4), ("show", 5)], 6), ([0, 0, 0], SLOTS, 6))

    def test_what_instructions_do(self):
        told = [("li", 0, 7), ("li", 1, -2), ("mov", 2, 0), ("op", "mul", 3, 0, 1), ("st", 3, 63), ("st", 2, 0), ("ld", 0, 63), ("show", 0), ("show", 2),
                ("op", "less", 0, 0, 2), ("show", 0), ("op", "same", 2, 2, 1), ("show", 2), ("li", 4, MOST), ("op", "add", 4, 4, 4), ("show", 4),
                ("op", "sub", 4, 1, 4), ("show", 4), ("halt",), ("show", 0)]
        self.assertEqual(play(told, 19), ([-14, 7, 1, 0, -2, 0], [7] + [0] * 62 + [-14], 19))

    def test_jumps(self):
        told = [("jz", 0, "a"), ("show", 9), ("label", "a"), ("li", 0, -1), ("jz", 0, 3), ("show", 0), ("jump", 4), ("label", 3), ("show", 9), ("label", 4)]
        self.assertEqual(play(told, 6), ([-1], SLOTS, 6))

    def test_traps(self):
        for told, at, used in [([("jump", "out")], 0, 1), ([("label", 0), ("show", 0), ("jz", 0, "out")], 2, 2), ([("label", "in"), ("jump", "a"), ("halt",)], 1, 1)]:
            for fuel in [used, used + 1, 99]:
                with self.assertRaises(TrapError) as caught:
                    play(told, fuel)
                self.assertEqual(caught.exception.at, at)
                self.assertEqual(observe_list(told, fuel), ("trap", [0] * (used - 1)))
            self.assertRaises(FuelError, play, told, used - 1)
            self.assertEqual(observe_list(told, used - 1)[0], "fuel")
        self.assertEqual(play([("li", 0, 1), ("jz", 0, "out")], 3), ([], SLOTS, 3))

    def test_no_end(self):
        told = [("label", 0), ("show", 0), ("jump", 0)]
        self.assertRaises(FuelError, play, told, 1000)
        self.assertEqual(observe_list(told, 1001), ("fuel", [0] * 501))

    def test_lists_by_chance(self):
        chance = random.Random(215)
        seen = {"halt": 0, "trap": 0, "fuel": 0}
        for _ in range(2000):
            told, fuel = some_list(chance, chance.randint(1, 25)), chance.randint(0, 60)
            plain = PlainPlay(told, fuel)
            seen[plain.ending] += 1
            self.assertEqual(observe_list(told, fuel), (plain.ending, plain.shown))
            if plain.ending == "halt":
                self.assertEqual(play(told, fuel), (plain.shown, plain.slots, plain.used))
                self.assertEqual(play(told, plain.used), (plain.shown, plain.slots, plain.used))
                self.assertRaises(FuelError, play, told, plain.used - 1)
            elif plain.ending == "fuel":
                self.assertRaises(FuelError, play, told, fuel)
            else:
                with self.assertRaises(TrapError) as caught:
                    play(told, fuel)
                self.assertEqual(caught.exception.at, plain.at)
        self.assertGreater(min(seen.values()), 50)

    def test_arguments_stay_and_results_are_new(self):
        given = copy.deepcopy(COUNT)
        found = play(given, 12)
        found[0].clear()
        found[1].clear()
        observe_list(given, 12)[1].clear()
        parse_list(format_list(given)).clear()
        check_list(given, 2)
        self.assertEqual(given, COUNT)
        self.assertEqual(play(given, 12), ([2, 1], SLOTS, 12))
        self.assertEqual(observe_list(given, 12), ("halt", [2, 1]))
        self.assertEqual(parse_list(format_list(given)), COUNT)


if __name__ == "__main__":
    unittest.main()
