"""Real registers: points 25.1 to 25.7."""

import copy
import random
import time
import unittest

from allocating import Agreement, is_copy, plain_interference, plain_shape, some_source
from lists import PlainPlay, plain_live, some_list
from scribeself.colouring import allocate, check_allocation, interference
from scribeself.errors import MachineError, SpillError
from scribeself.flow import drop_dead
from scribeself.machines import check_list, play, reads, writes

EXAMPLE = [("li", 4, 2), ("li", 5, 3), ("op", "mul", 6, 4, 5), ("show", 6), ("show", 4)]


def add(d, a, b):
    return ("op", "add", d, a, b)


def most_neighbours(told):
    pairs = plain_interference(told)
    numbers = [number for pair in pairs for number in pair]
    return max([numbers.count(number) for number in set(numbers)], default=0)


def many_live(many):
    """As many registers as told are live at a time, and each pair of them interferes."""
    return [("li", k, k) for k in range(many)] + [("show", k) for k in range(many)]


def few_interfere(many):
    """Many registers, of which only three are live at a time."""
    found = [("li", 0, 1), ("li", 1, 2)]
    for k in range(2, many):
        found += [add(k, k - 1, k - 2), ("show", k)]
    return found


def loop(inner, many):
    return [("li", 90, many), ("li", 91, 1), ("label", 90), ("jz", 90, 91)] + inner + [("op", "sub", 90, 90, 91), ("jump", 90), ("label", 91), ("show", 90)]


class AllocationCase(unittest.TestCase):
    def right(self, told, registers):
        """Allocate a source, and look through what is returned."""
        found = allocate(told, registers)
        self.assertIsNone(check_list(found, registers))
        self.assertTrue(all(part[2] < 64 for part in found if part[0] in ("ld", "st")))
        self.assertIsNone(plain_shape(told, found))
        self.assertTrue(Agreement(told, found).is_right())
        self.assertIsNone(check_allocation(told, found))
        return found

    def wrong(self, told, target):
        """A witness that a target is not right."""
        agreement = Agreement(told, target)
        self.assertFalse(agreement.is_right())
        found = check_allocation(told, target)
        self.assertEqual((type(found), found[0]), (tuple, "path"))
        self.assertTrue(agreement.is_witness(found), found)
        return found


class InterferenceTest(unittest.TestCase):
    def test_example(self):
        self.assertEqual(interference(EXAMPLE), [(4, 5), (4, 6)])

    def test_what_interferes(self):
        self.assertEqual(interference([]), [])
        self.assertEqual(interference([("li", 0, 1), ("li", 1, 1)]), [])
        self.assertEqual(interference([("li", 0, 1), ("li", 1, 1), ("show", 0)]), [(0, 1)])
        self.assertEqual(interference([("li", 1, 1), ("show", 0)]), [(0, 1)])
        self.assertEqual(interference([add(1, 0, 0), ("show", 1)]), [])
        self.assertEqual(interference([add(1, 0, 0), ("show", 0)]), [(0, 1)])
        # Registers that only lie side by side, without being written, do not interfere.
        self.assertEqual(interference([("show", 0), ("show", 1)]), [])

    def test_mov(self):
        self.assertEqual(interference([("mov", 1, 0), ("show", 0), ("show", 1)]), [])
        self.assertEqual(interference([("mov", 1, 0), ("show", 0), ("show", 1), ("show", 2)]), [(1, 2)])
        self.assertEqual(interference([("mov", 1, 0), ("li", 0, 1), ("show", 0), ("show", 1)]), [(0, 1)])
        self.assertEqual(interference([("mov", 1, 0), ("li", 1, 1), ("show", 0), ("show", 1)]), [(0, 1)])
        self.assertEqual(interference([("mov", 0, 0), ("show", 0)]), [])

    def test_lists_by_chance(self):
        chance = random.Random(251)
        for _ in range(300):
            told = some_list(chance, chance.randint(0, 25), chance.randint(1, 8))
            self.assertEqual(interference(told), plain_interference(told))


class SourcesTest(unittest.TestCase):
    def at(self, told):
        with self.assertRaises(MachineError) as caught:
            allocate(told, 3)
        return caught.exception.at

    def test_invalid_lists(self):
        self.assertEqual(self.at([("show", 0), ("jump", 5)]), 1)
        self.assertEqual(self.at([("label", 1), ("label", 1)]), 1)
        self.assertEqual(self.at([("li", 10000, 0)]), 0)
        self.assertEqual(self.at([("ld", 0, 64)]), 0)
        # An invalid list is told first, whatever else is wrong.
        self.assertEqual(self.at([("ld", 0, 16), ("nothing",)]), 1)

    def test_slots(self):
        self.assertEqual(self.at([("ld", 0, 15), ("ld", 0, 16)]), 1)
        self.assertEqual(self.at([("st", 0, 63), ("ld", 0, 16)]), 0)
        allocate([("ld", 0, 15), ("st", 0, 0)], 2)

    def test_names_with_live_registers(self):
        self.assertEqual(self.at([("li", 0, 1), ("label", "a"), ("show", 0)]), 1)
        self.assertEqual(self.at([("label", "a"), ("mov", 1, 0)]), 0)
        self.assertEqual(self.at([("halt",), ("ld", 3, 2), ("label", "a"), ("jz", 3, "b"), ("label", "b")]), 2)
        self.assertEqual(self.at([("label", "a"), ("show", 0), ("ld", 0, 40)]), 0)
        self.assertEqual(self.at([("ld", 0, 40), ("label", "a"), ("show", 0)]), 0)
        for fine in [[("label", "a"), ("li", 0, 1), ("show", 0)], [("show", 0), ("label", "a")], [("label", 5), ("show", 0)],
                     [("show", 0), ("jump", "a"), ("show", 1), ("label", "a"), ("halt",), ("show", 2)]]:
            allocate(fine, 2)


class AllocateTest(AllocationCase):
    def test_example(self):
        self.assertIsNone(check_allocation(EXAMPLE, allocate(EXAMPLE, 2)))
        self.assertEqual(self.right([], 2), [])

    def test_how_many_are_live(self):
        for registers in range(2, 9):
            for many in [1, registers - 1, registers, registers + 1, 30, 48]:
                found = self.right(many_live(many), registers)
                self.assertEqual(play(found, 999)[0], list(range(many)))
                self.assertEqual(any(part[0] == "st" for part in found), many > registers)

    def test_few_registers_need_no_slots(self):
        for registers in [3, 4, 8]:
            found = self.right(few_interfere(96), registers)
            self.assertEqual([part for part in found if is_copy(part)], [])
        found = self.right(few_interfere(96), 2)
        self.assertEqual(play(found, 9999)[0], play(few_interfere(96), 9999)[0])

    def test_copies_that_are_saved(self):
        told = [("li", 0, 1), ("mov", 1, 0), ("mov", 2, 1), ("show", 2), ("show", 2)]
        self.assertEqual([part[0] for part in self.right(told, 2)], ["li", "show", "show"])
        told = [("li", 0, 1), ("mov", 1, 0), ("li", 0, 2), ("show", 0), ("show", 1)]
        self.assertEqual(play(self.right(told, 2), 99)[0], [2, 1])

    def test_places_that_save_copies(self):
        # Whichever of the two registers of a "mov" has more neighbours, and whichever of them got the first place.
        for one, other in [(5, 6), (6, 5)]:
            for told in [[("li", 5, 1), ("li", 6, 2), ("show", one), ("mov", 7, other), ("show", 7)],
                         [("li", 7, 3), ("mov", other, 7), ("li", one, 1), ("show", one), ("show", other)],
                         [("li", 7, 3), ("show", 7), ("li", one, 1), ("li", other, 2), ("show", one), ("mov", 7, other), ("show", 7)],
                         [("li", one, 1), ("li", other, 2), ("li", 4, 3), ("show", 4), ("show", one), ("mov", 7, other), ("show", 7)]]:
                found = self.right(told, 3)
                self.assertEqual([part for part in found if part[0] == "mov"], [], told)
        # No slot is taken only to save a copy, as long as a register is free.
        told = many_live(12)[:12] + [("mov", 20, 11)] + [add(20, 20, 20)] * 9 + [("show", 20)] + many_live(12)[12:]
        found = self.right(told, 4)
        self.assertLess(len(found), 2 * len(told))

    def test_as_few_registers_as_are_live(self):
        """Where each register is written once, in a list without jumps, no slot is needed if few are live at a time."""
        chance = random.Random(2521)
        tried = 0
        while tried < 40:
            told = [("li", 0, 7)]
            for k in range(1, 40):
                first = max(0, k - chance.choice([1, 3, 9, 20]))
                told.append(add(k, chance.randrange(first, k), chance.randrange(first, k)))
            told = drop_dead(told + [("show", k) for k in range(40) if chance.random() < 0.15 or k == 39])
            most = max(len(found) for found in plain_live(told))
            if 2 <= most <= 8:
                tried += 1
                self.assertEqual([part for part in self.right(told, most) if is_copy(part)], [])

    def test_what_is_used_often_is_in_registers(self):
        told = many_live(30)[:30] + [add(20, 20, 21)] * 100 + many_live(30)[30:]
        for registers in [4, 6]:
            self.assertLess(len(self.right(told, registers)), len(told) + 100)

    def test_spilling(self):
        for many in [47, 48, 49, 50]:
            told = many_live(many)
            for registers in [2, 8]:
                if many <= 48:
                    self.right(told, registers)
        self.assertRaises(SpillError, allocate, many_live(96), 2)
        self.assertRaises(SpillError, allocate, many_live(96), 8)
        # A copy of each kind: between registers, between slots, and from one to the other.
        told = [("li", k, k) for k in range(6)] + [("mov", k + 10, k) for k in range(6)] + [add(k, k, k + 10) for k in range(6)]
        told += [("show", k) for k in range(6)] + [("show", k + 10) for k in range(6)]
        for registers in range(2, 9):
            self.assertEqual(play(self.right(told, registers), 999)[0], play(told, 999)[0])

    def test_spilled_registers_in_each_kind_of_instruction(self):
        told = [("li", k, k) for k in range(12)] + [("ld", 3, 2), ("st", 4, 2), ("mov", 5, 6), add(7, 8, 8), ("jz", 9, 0), ("jz", 0, 0), ("show", 1), ("label", 0)]
        told += [("show", k) for k in range(12)]
        for registers in range(2, 9):
            found = self.right(told, registers)
            self.assertEqual(play(found, 999)[0], play(told, 999)[0])
            self.assertEqual(play(found, 999)[1][:16], play(told, 999)[1][:16])

    def test_loops(self):
        inner = [("ld", 0, 1), add(1, 1, 90), add(2, 1, 0), ("st", 2, 1), ("show", 2), ("mov", 3, 2), add(4, 3, 1)]
        told = loop(loop(inner, 1)[1:2] + inner, 4)
        for registers in range(2, 9):
            self.assertEqual(play(self.right(told, registers), 9999)[0], play(told, 9999)[0])

    def test_values_at_the_beginning(self):
        # All registers are 0 at the beginning, wherever they are.
        told = [("show", k) for k in range(20)] + [add(0, 1, 2), ("show", 0)]
        for registers in [2, 5]:
            self.assertEqual(play(self.right(told, registers), 99)[0], [0] * 21)

    def test_names(self):
        told = [("li", 0, 5), ("st", 0, 3), ("jump", "other"), ("label", "back"), ("ld", 7, 3), add(8, 7, 7), ("show", 8), ("jz", 7, "back"), ("halt",)]
        for registers in [2, 3]:
            self.right(told, registers)

    def test_sources_by_chance(self):
        chance = random.Random(252)
        spilled = 0
        for _ in range(150):
            registers = chance.choice([2, 2, 3, 4, 8])
            told = some_source(chance, chance.randint(1, 25), chance.randint(1, 12))
            found = self.right(told, registers)
            spilled += any(is_copy(part) and part[0] != "mov" for part in found)
            one, two = PlainPlay(told, 300), PlainPlay(found, 3000)
            if one.ending != "fuel":
                self.assertEqual((two.ending, two.shown, two.slots[:16]), (one.ending, one.shown, one.slots[:16]))
            else:
                self.assertEqual(two.shown[:len(one.shown)], one.shown[:len(two.shown)])
        self.assertGreater(spilled, 30)

    def test_spills_at_most_where_many_interfere(self):
        chance = random.Random(253)
        raised = 0
        for many in [40, 48, 52, 60, 96]:
            for _ in range(4):
                told = [("li", k, k) for k in range(many)] + [add(chance.randrange(many), chance.randrange(many), chance.randrange(many)) for _ in range(400)]
                try:
                    self.assertIsNone(check_allocation(told, allocate(told, chance.randint(2, 8))))
                except SpillError:
                    raised += 1
                    self.assertGreaterEqual(most_neighbours(told), 48)
        self.assertGreater(raised, 0)

    def test_long_sources(self):
        chance = random.Random(254)
        begun = time.time()
        for registers in [2, 4, 8]:
            for told in [few_interfere(500), many_live(48) * 10, [part for k in range(240) for part in
                         [("label", k), add(k % 24, (k * 7) % 24, (k * 3) % 24), ("jz", k % 24, chance.randrange(240)), ("mov", (k * 5) % 24, (k * 11) % 24)]]]:
                self.assertIsNone(check_allocation(told, allocate(told, registers)))
        self.assertLess(time.time() - begun, 60)


class CheckTest(AllocationCase):
    def test_example(self):
        self.assertEqual(check_allocation(EXAMPLE, [("li", 0, 2), ("li", 1, 3), ("op", "mul", 0, 0, 1), ("show", 0), ("show", 0)]), ("path", [2, 3, 4], 4, 0))
        self.assertEqual(check_allocation(EXAMPLE, [("li", 0, 2), ("li", 1, 3)]), ("shape", 2))

    def test_shapes(self):
        told = [("li", 9, 2), ("mov", 8, 9), ("op", "add", 7, 8, 9), ("ld", 6, 4), ("st", 6, 5), ("label", 3), ("jz", 7, 3), ("show", 7), ("jump", "a"), ("halt",)]
        right = self.right(told, 3)
        cores = [at for at, part in enumerate(right) if not is_copy(part)]
        for number, other in enumerate([("li", 0, 3), ("op", "sub", 0, 0, 0), ("ld", 0, 5), ("st", 0, 4), ("label", 4), ("jz", 0, "a"), ("show", 0), ("jump", 3),
                                        ("jump", "b")]):
            at = cores[number]
            if other != right[at] and other != ("show", 0):
                self.assertEqual(check_allocation(told, right[:at] + [other] + right[at + 1:]), ("shape", number))
            self.assertEqual(check_allocation(told, right[:at] + right[at + 1:]), ("shape", number))
            self.assertEqual(check_allocation(told, right[:at] + [("label", "z")] + right[at:]), ("shape", number))
        self.assertEqual(check_allocation(told, right + [("halt",)]), ("shape", 9))
        self.assertEqual(check_allocation([], [("halt",)]), ("shape", 0))
        self.assertEqual(check_allocation([("mov", 1, 0)], []), None)
        self.assertEqual(check_allocation([], [("mov", 1, 0), ("st", 0, 16)]), None)
        # A slot below 16 is a core, one from 16 up is a copy.
        self.assertEqual(check_allocation([("show", 0)], [("ld", 0, 15), ("show", 0)]), ("shape", 0))
        self.assertEqual(check_allocation([("show", 0)], [("ld", 0, 16), ("show", 0)]), None)

    def test_another_register(self):
        told = [("li", 0, 1), ("li", 1, 2), add(2, 0, 1), ("show", 2)]
        self.assertEqual(check_allocation(told, [("li", 5, 1), ("li", 6, 2), add(7, 5, 6), ("show", 7)]), None)
        self.assertEqual(self.wrong(told, [("li", 5, 1), ("li", 6, 2), add(7, 6, 6), ("show", 7)]), ("path", [1, 2], 0, 6))
        # Only positions count: the operands are not exchanged.
        self.assertEqual(self.wrong(told, [("li", 5, 1), ("li", 6, 2), add(7, 6, 5), ("show", 7)])[2:] in [(0, 6), (1, 5)], True)
        self.assertEqual(self.wrong(told, [("li", 5, 1), ("li", 6, 2), add(7, 5, 6), ("show", 5)]), ("path", [2, 3], 2, 5))
        # A register that was never set agrees with every place that was never set.
        self.assertEqual(check_allocation([("show", 0), ("show", 1)], [("show", 3), ("show", 3)]), None)
        self.assertEqual(self.wrong([("li", 0, 1), ("show", 1)], [("li", 3, 1), ("show", 3)]), ("path", [0, 1], 1, 3))
        self.assertEqual(check_allocation([("li", 0, 1), ("show", 1)], [("li", 3, 1), ("show", 4)]), None)

    def test_copies(self):
        told = [("li", 0, 1), ("li", 1, 2), ("show", 0), ("show", 1)]
        right = [("li", 0, 1), ("st", 0, 20), ("li", 0, 2), ("mov", 1, 0), ("ld", 0, 20), ("show", 0), ("show", 1)]
        self.assertIsNone(check_allocation(told, right))
        for at in [1, 3, 4]:
            self.wrong(told, right[:at] + right[at + 1:])
        for wrong in [right[:3] + [right[4], right[3]] + right[5:], right[:4] + [("mov", 1, 7)] + right[4:], right[:5] + [("st", 2, 20), ("ld", 0, 20)] + right[5:],
                      right[:4] + [("ld", 0, 21)] + right[5:]]:
            self.wrong(told, wrong)
        for fine in [right[:5] + [("st", 2, 20)] + right[5:], right[:5] + [("mov", 7, 0)] + right[5:], right[:5] + [("st", 0, 63), ("ld", 0, 63)] + right[5:],
                     right[:6] + [("mov", 0, 2)] + right[6:]]:
            self.assertIsNone(check_allocation(told, fine))

    def test_copies_of_the_source(self):
        told = [("li", 0, 1), ("mov", 1, 0), ("li", 0, 2), ("show", 1), ("show", 0)]
        self.assertIsNone(check_allocation(told, [("li", 5, 1), ("li", 6, 2), ("show", 5), ("show", 6)]))
        self.wrong(told, [("li", 5, 1), ("li", 6, 2), ("show", 6), ("show", 6)])
        self.wrong(told, [("li", 5, 1), ("li", 5, 2), ("show", 5), ("show", 5)])
        # Two registers that are exchanged over a third one.
        told = [("li", 0, 1), ("li", 1, 2), ("mov", 2, 0), ("mov", 0, 1), ("mov", 1, 2), ("show", 0), ("show", 1)]
        self.assertIsNone(check_allocation(told, [("li", 0, 1), ("li", 1, 2), ("show", 1), ("show", 0)]))
        self.wrong(told, [("li", 0, 1), ("li", 1, 2), ("show", 0), ("show", 1)])

    def test_copies_at_labels(self):
        told = [("li", 0, 1), ("jz", 5, 3), ("label", 3), ("show", 0)]
        self.assertIsNone(check_allocation(told, [("li", 0, 1), ("jz", 5, 3), ("label", 3), ("mov", 1, 0), ("show", 1)]))
        # Ahead of the label the copy is passed only by one of the two ways.
        found = self.wrong(told, [("li", 0, 1), ("jz", 5, 3), ("mov", 1, 0), ("label", 3), ("show", 1)])
        self.assertEqual(found, ("path", [0, 1, 2, 3], 0, 1))
        # Here the other way is the wrong one.
        self.wrong(told, [("li", 0, 1), ("jz", 5, 3), ("mov", 0, 1), ("label", 3), ("show", 0)])
        told = [("li", 0, 1), ("jump", 3), ("label", 3), ("show", 0)]
        self.assertIsNone(check_allocation(told, [("li", 0, 1), ("jump", 3), ("mov", 0, 1), ("label", 3), ("show", 0)]))
        self.wrong(told, [("li", 0, 1), ("jump", 3), ("mov", 1, 0), ("label", 3), ("show", 1)])
        # The copies of the source count in the same way.
        told = [("li", 0, 1), ("jz", 5, 3), ("mov", 0, 6), ("label", 3), ("show", 0)]
        self.assertIsNone(check_allocation(told, [("li", 0, 1), ("jz", 5, 3), ("mov", 0, 6), ("label", 3), ("show", 0)]))
        self.wrong(told, [("li", 0, 1), ("jz", 5, 3), ("label", 3), ("show", 0)])

    def test_loops(self):
        told = [("li", 0, 1), ("label", 0), ("show", 0), add(0, 0, 0), ("jump", 0)]
        self.assertIsNone(check_allocation(told, [("li", 0, 1), ("label", 0), ("show", 0), add(0, 0, 0), ("jump", 0)]))
        found = self.wrong(told, [("li", 0, 1), ("label", 0), ("show", 0), add(1, 0, 0), ("jump", 0)])
        self.assertEqual(found, ("path", [3, 4, 1, 2], 0, 0))
        self.assertIsNone(check_allocation(told, [("li", 0, 1), ("label", 0), ("show", 0), add(1, 0, 0), ("mov", 0, 1), ("jump", 0)]))
        self.wrong(told, [("li", 0, 1), ("label", 0), ("show", 0), add(1, 0, 0), ("jump", 0), ("mov", 0, 1)])
        # A core that writes what it has read, and comes back to itself.
        told = [("label", 0), add(0, 0, 0), ("jump", 0)]
        self.assertEqual(self.wrong(told, [("label", 0), add(1, 0, 0), ("jump", 0)]), ("path", [1, 2, 0, 1], 0, 0))

    def test_entries(self):
        # Behind a name nothing agrees, but what was set then does.
        told = [("li", 0, 1), ("jump", 9), ("label", "a"), ("li", 0, 2), ("label", 9), ("show", 0)]
        self.assertIsNone(check_allocation(told, told))
        self.wrong(told, [("li", 0, 1), ("jump", 9), ("label", "a"), ("li", 1, 2), ("label", 9), ("show", 0)])
        # The copies ahead of a name belong to other paths only.
        told = [("li", 0, 1), ("show", 0), ("label", "a"), ("li", 0, 2), ("show", 0)]
        self.assertIsNone(check_allocation(told, told[:2] + [("mov", 3, 0)] + told[2:]))

    def test_what_cannot_be_reached(self):
        told = [("li", 0, 1), ("jump", 9), ("show", 0), ("li", 1, 1), ("label", 9), ("show", 0)]
        self.assertIsNone(check_allocation(told, [("li", 0, 1), ("jump", 9), ("show", 7), ("li", 0, 1), ("label", 9), ("show", 0)]))
        told = [("halt",), ("li", 0, 1), ("show", 0), ("jump", 5), ("label", 5), ("show", 0)]
        self.assertIsNone(check_allocation(told, [("halt",), ("li", 0, 1), ("show", 1), ("jump", 5), ("label", 5), ("show", 2)]))

    def test_endless_lists(self):
        # The end is no node that is reached, the last core is.
        told = [("li", 0, 1), ("label", 0), ("show", 0), ("jump", 0)]
        self.assertIsNone(check_allocation(told, told))
        told = [("li", 0, 1), ("label", 0), ("jump", 1), ("label", 1), ("jump", 0)]
        self.assertIsNone(check_allocation(told, told))
        told = [("li", 0, 1), ("jump", 1), ("label", 0), ("show", 0), ("label", 1), ("jz", 0, 0), ("jump", 0)]
        self.wrong(told, [("li", 0, 1), ("jump", 1), ("label", 0), ("show", 1), ("label", 1), ("jz", 0, 0), ("jump", 0)])
        self.wrong([("li", 0, 1), ("label", 0), ("jz", 0, 0), ("jump", 0)], [("li", 0, 1), ("label", 0), ("jz", 1, 0), ("jump", 0)])

    def test_targets_by_chance(self):
        chance = random.Random(256)
        told = {"right": 0, "wrong": 0}
        for _ in range(500):
            source = some_source(chance, chance.randint(4, 14), chance.randint(2, 8))
            target = allocate(source, chance.choice([2, 2, 3, 4, 8]))
            for _ in range(chance.randint(1, 3)):
                target = self.changed(chance, target)
            self.assertIsNone(plain_shape(source, target))
            if Agreement(source, target).is_right():
                told["right"] += 1
                self.assertIsNone(check_allocation(source, target))
            else:
                told["wrong"] += 1
                self.wrong(source, target)
        self.assertGreater(min(told.values()), 100)

    def changed(self, chance, target):
        """A target with a copy put in, left out or moved, or with another register in a core."""
        found = list(target)
        copies = [at for at, part in enumerate(found) if is_copy(part)]
        numbers = [at for at, part in enumerate(found) if not is_copy(part) and reads(part) + writes(part)]
        choice = chance.randrange(4)
        if choice == 0:
            copied = chance.choice([("mov", chance.randrange(4), chance.randrange(4)), ("ld", chance.randrange(4), 16 + chance.randrange(3)),
                                    ("st", chance.randrange(4), 16 + chance.randrange(3))])
            found.insert(chance.randint(0, len(found)), copied)
        elif choice == 1 and copies:
            del found[chance.choice(copies)]
        elif choice == 2 and copies:
            part = found.pop(chance.choice(copies))
            found.insert(chance.randint(0, len(found)), part)
        elif numbers:
            at = chance.choice(numbers)
            k = chance.choice({"op": [2, 3, 4]}.get(found[at][0], [1]))
            found[at] = found[at][:k] + (chance.randrange(8),) + found[at][k + 1:]
        return found

    def test_arguments_stay_and_results_are_new(self):
        told = some_source(random.Random(257), 20, 6)
        target = allocate(told, 2)
        wrong = [part if part[0] != "show" else ("show", 7) for part in target]
        kept = copy.deepcopy((told, target, wrong, check_allocation(told, wrong)))
        check_allocation(told, wrong)[1].clear()
        self.assertEqual((told, target, wrong, check_allocation(told, wrong)), kept)
        allocate(told, 2).clear()
        self.assertEqual(allocate(told, 2), target)
        interference(told).clear()
        self.assertEqual(interference(told), plain_interference(told))
        self.assertIsNot(allocate(EXAMPLE, 8), EXAMPLE)


if __name__ == "__main__":
    unittest.main()
