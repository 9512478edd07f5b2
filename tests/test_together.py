"""What the parts promise together (point 0.4): a list shows on the machine what it shows by itself."""

import random
import unittest

from allocating import some_source
from covering import some_patterns
from lists import PlainPlay
from middle import PlainRun, some_statement
from scribeself.codes import assemble, disassemble
from scribeself.colouring import allocate, check_allocation
from scribeself.covers import compiled
from scribeself.flow import drop_dead
from scribeself.linking import combine, link
from scribeself.running import execute, observe_image
from scribeself.scheduling import check_schedule, schedule


def some_machine(chance):
    return ("machine", chance.choice([2, 2, 3, 4, 8]), chance.randint(1, 9), chance.randint(1, 9), chance.randint(1, 9))


class TogetherTest(unittest.TestCase):
    def made(self, machine, told):
        """The list for the machine, each step of the way looked through."""
        dropped = drop_dead(told)
        first = schedule(machine, dropped)
        self.assertTrue(check_schedule(machine, dropped, first))
        placed = allocate(first, machine[1])
        self.assertIsNone(check_allocation(first, placed))
        last = schedule(machine, placed)
        self.assertTrue(check_schedule(machine, placed, last))
        return placed, last

    def test_lists(self):
        chance = random.Random(4)
        endings = set()
        for _ in range(300):
            machine = some_machine(chance)
            told = some_source(chance, chance.randint(1, 25), chance.randint(1, 10), (0, 7, 8))
            placed, last = self.made(machine, told)
            image = link([assemble(last)])
            plain = PlainPlay(told, 200)
            endings.add(plain.ending)
            if plain.ending == "halt":
                shown, slots, cycles, steps = execute(machine, image, 5000)
                self.assertEqual((shown, slots[:16]), (plain.shown, plain.slots[:16]))
                _, _, before, same = execute(machine, link([assemble(placed)]), 5000)
                self.assertLessEqual(cycles, before)
                self.assertEqual(steps, same)
            else:
                ending, shown = observe_image(machine, image, 5000)
                self.assertEqual((ending, shown[:len(plain.shown)]), ("fuel", plain.shown))
            if all(part[0] != "halt" for part in last):
                self.assertEqual(assemble(disassemble(image))[1][:-1], image)
        self.assertEqual(endings, {"halt", "fuel"})

    def test_statements(self):
        chance = random.Random(5)
        for _ in range(200):
            machine = some_machine(chance)
            statement = some_statement(chance, 4)
            _, last = self.made(machine, compiled(some_patterns(chance), statement))
            plain = PlainRun(statement, 300)
            ending, shown = observe_image(machine, link([assemble(last)]), 50000)
            if plain.ended:
                self.assertEqual((ending, shown), ("halt", plain.shown))
            else:
                self.assertEqual(shown[:len(plain.shown)], plain.shown)

    def test_several_lists(self):
        # Values pass from list to list in slots only.
        main = [("li", 0, 6), ("st", 0, 1), ("jump", "double"), ("label", "back"), ("ld", 0, 1), ("show", 0), ("halt",)]
        double = [("label", "double"), ("ld", 5, 1), ("op", "add", 5, 5, 5), ("li", 6, 1), ("jz", 6, 0), ("st", 5, 1), ("label", 0), ("jump", "back")]
        for machine in [("machine", 2, 3, 2, 1), ("machine", 8, 9, 9, 9)]:
            parts = [assemble(self.made(machine, told)[1]) for told in [main, double]]
            for given in [parts, [combine(parts)]]:
                self.assertEqual(execute(machine, link(given), 100)[0], [12])


if __name__ == "__main__":
    unittest.main()
