"""Running an image: points 28.1 to 28.5."""

import copy
import random
import unittest

from lists import PlainPlay, some_list
from scribeself.codes import assemble, decode, encode
from scribeself.errors import FuelError, TrapError
from scribeself.linking import link
from scribeself.machines import latency, reads, writes
from scribeself.running import advance, execute, observe_image, start

MACHINE = ("machine", 3, 4, 6, 2)
HALT = 14 * 2 ** 24
ZEROS = (0,) * 64
EXAMPLE = [17825799, 100732928, 184549376, 234881024]


def words(*instructions):
    return [word for part in instructions for word in encode(part, part[-1] if part[0] in ("jump", "jz") else 0)]


def slots(**values):
    found = [0] * 64
    for name, number in values.items():
        found[int(name[1:])] = number
    return tuple(found)


def state(address, registers, ready, cycle, shown=(), told=ZEROS):
    return ("state", address, registers, told, ready, cycle, shown)


class StatesTest(unittest.TestCase):
    def test_start(self):
        self.assertEqual(start(MACHINE), state(0, (0, 0, 0), (0, 0, 0), 0))
        self.assertEqual(start(("machine", 8, 1, 1, 1)), state(0, (0,) * 8, (0,) * 8, 0))

    def test_each_kind(self):
        before = state(1, (5, -7, 0), (3, 10, 0), 4, (8,), slots(s2=9))
        for part, after in [
                (("li", 0, 2 ** 31 - 1), state(3, (2 ** 31 - 1, -7, 0), (6, 10, 0), 5, (8,), slots(s2=9))),
                (("li", 1, -3), state(2, (5, -3, 0), (3, 6, 0), 5, (8,), slots(s2=9))),
                (("mov", 2, 0), state(2, (5, -7, 5), (3, 10, 6), 5, (8,), slots(s2=9))),
                (("mov", 0, 1), state(2, (-7, -7, 0), (12, 10, 0), 11, (8,), slots(s2=9))),
                (("op", "mul", 2, 0, 1), state(2, (5, -7, -35), (3, 10, 16), 11, (8,), slots(s2=9))),
                (("op", "sub", 0, 0, 2), state(2, (5, -7, 0), (6, 10, 0), 5, (8,), slots(s2=9))),
                (("op", "less", 1, 1, 0), state(2, (5, 1, 0), (3, 12, 0), 11, (8,), slots(s2=9))),
                (("op", "same", 0, 2, 2), state(2, (1, -7, 0), (6, 10, 0), 5, (8,), slots(s2=9))),
                (("op", "add", 0, 1, 1), state(2, (-14, -7, 0), (12, 10, 0), 11, (8,), slots(s2=9))),
                (("ld", 1, 2), state(2, (5, 9, 0), (3, 8, 0), 5, (8,), slots(s2=9))),
                (("st", 1, 63), state(2, (5, -7, 0), (3, 10, 0), 11, (8,), slots(s2=9, s63=-7))),
                (("st", 0, 2), state(2, (5, -7, 0), (3, 10, 0), 5, (8,), slots(s2=5))),
                (("show", 1), state(2, (5, -7, 0), (3, 10, 0), 11, (8, -7), slots(s2=9))),
                (("jz", 0, 77), state(2, (5, -7, 0), (3, 10, 0), 5, (8,), slots(s2=9))),
                (("jz", 2, 77), state(77, (5, -7, 0), (3, 10, 0), 5, (8,), slots(s2=9))),
                (("jz", 1, 77), state(2, (5, -7, 0), (3, 10, 0), 11, (8,), slots(s2=9))),
                (("jump", 1048575), state(1048575, (5, -7, 0), (3, 10, 0), 5, (8,), slots(s2=9))),
                (("halt",), state(-1, (5, -7, 0), (3, 10, 0), 5, (8,), slots(s2=9)))]:
            self.assertEqual(advance(MACHINE, [0] + words(part), before), after, part)

    def test_latencies(self):
        machine = ("machine", 2, 7, 8, 9)
        for part, late in [(("ld", 0, 1), 7), (("op", "mul", 0, 1, 1), 8), (("op", "add", 0, 1, 1), 9), (("li", 0, 1), 9), (("mov", 0, 1), 9)]:
            self.assertEqual(advance(machine, words(part), start(machine))[4:6], ((late, 0), 1))

    def test_results_are_wrapped(self):
        self.assertEqual(advance(MACHINE, words(("op", "mul", 0, 1, 1)), state(0, (0, 65536, 0), (0, 0, 0), 0))[2][0], 0)
        self.assertEqual(advance(MACHINE, words(("op", "add", 0, 1, 1)), state(0, (0, 2 ** 30, 0), (0, 0, 0), 0))[2][0], -2 ** 31)

    def test_a_stopped_state(self):
        stopped = state(-1, (1, 2, 3), (9, 9, 9), 4, (7,))
        self.assertEqual(advance(MACHINE, [HALT], stopped), stopped)
        self.assertEqual(advance(MACHINE, [], stopped), stopped)

    def test_traps(self):
        for image, at in [([], 0), ([0], 0), ([HALT], 1), ([HALT], 5), ([HALT, 2 ** 25], 1), ([HALT], 1048575)]:
            with self.assertRaises(TrapError) as caught:
                advance(MACHINE, image, state(at, (0, 0, 0), (0, 0, 0), 0))
            self.assertEqual(caught.exception.at, at)
        for part in [("li", 3, 0), ("mov", 0, 3), ("mov", 15, 0), ("op", "add", 3, 0, 0), ("op", "add", 0, 3, 0), ("op", "add", 0, 0, 3), ("ld", 3, 0), ("st", 3, 0),
                     ("show", 3), ("jz", 3, 0)]:
            with self.assertRaises(TrapError) as caught:
                advance(MACHINE, [HALT] + words(part), state(1, (0, 0, 0), (0, 0, 0), 0))
            self.assertEqual(caught.exception.at, 1)
            advance(("machine", 8, 1, 1, 1), words(part), start(("machine", 8, 1, 1, 1))) if 15 not in part else None

    def test_into_the_middle_of_an_instruction(self):
        image = words(("jump", 2), ("li", 0, HALT))
        after = advance(MACHINE, image, advance(MACHINE, image, start(MACHINE)))
        self.assertEqual(after[1], -1)


class ExecuteTest(unittest.TestCase):
    def test_example(self):
        machine = ("machine", 2, 3, 4, 1)
        shown, told, cycles, steps = execute(machine, EXAMPLE, 4)
        self.assertEqual((shown, told, cycles, steps), ([49], [0] * 64, 7, 4))
        self.assertEqual(observe_image(machine, [0], 0), ("fuel", []))
        self.assertEqual(observe_image(machine, [0], 1), ("trap", []))

    def test_fuel(self):
        machine = ("machine", 2, 3, 4, 1)
        for fuel in [0, 1, 3]:
            self.assertRaises(FuelError, execute, machine, EXAMPLE, fuel)
            self.assertEqual(observe_image(machine, EXAMPLE, fuel), ("fuel", [49] if fuel == 3 else []))
        for fuel in [4, 5, 10 ** 6]:
            self.assertEqual(execute(machine, EXAMPLE, fuel)[2:], (7, 4))
            self.assertEqual(observe_image(machine, EXAMPLE, fuel), ("halt", [49]))

    def test_traps(self):
        image = words(("show", 0), ("jump", 9))
        for fuel in [0, 1, 2]:
            self.assertRaises(FuelError, execute, MACHINE, image, fuel)
            self.assertEqual(observe_image(MACHINE, image, fuel), ("fuel", [0] if fuel else []))
        for fuel in [3, 4]:
            with self.assertRaises(TrapError) as caught:
                execute(MACHINE, image, fuel)
            self.assertEqual(caught.exception.at, 9)
            self.assertEqual(observe_image(MACHINE, image, fuel), ("trap", [0]))
        image = words(("li", 0, 3), ("show", 0), ("show", 3))
        self.assertRaises(FuelError, execute, MACHINE, image, 2)
        self.assertRaises(TrapError, execute, MACHINE, image, 3)
        self.assertEqual(observe_image(MACHINE, image, 3), ("trap", [3]))

    def test_slots(self):
        image = words(("li", 1, -9), ("st", 1, 63), ("ld", 2, 63), ("st", 2, 0), ("halt",))
        shown, told, _, steps = execute(MACHINE, image, 9)
        self.assertEqual((shown, told[0], told[63], told[1:63], steps), ([], -9, -9, [0] * 62, 5))

    def test_waiting(self):
        # The load is waited for only where its number is read.
        image = words(("ld", 0, 0), ("li", 1, 1), ("show", 1), ("show", 0), ("halt",))
        self.assertEqual(execute(MACHINE, image, 9)[2], 6)
        self.assertEqual(execute(("machine", 2, 9, 1, 1), image, 9)[2], 11)
        # A register that is written again is ready by the second one.
        image = words(("ld", 0, 0), ("li", 0, 1), ("show", 0), ("halt",))
        self.assertEqual(execute(("machine", 2, 9, 1, 1), image, 9)[2], 4)

    def test_lists_by_chance(self):
        chance = random.Random(281)
        endings = set()
        for _ in range(300):
            machine = ("machine", chance.randint(2, 4), chance.randint(1, 9), chance.randint(1, 9), chance.randint(1, 9))
            told = some_list(chance, chance.randint(1, 20), machine[1], (0, 7, 8))
            image = link([assemble(told)])
            fuel = chance.choice([5, 20, 100])
            plain = PlainPlay(told, fuel)
            self.assertEqual(observe_image(machine, image, fuel), (plain.ending, plain.shown))
            endings.add(plain.ending)
            if plain.ending == "halt":
                self.assertEqual((execute(machine, image, fuel)[0], execute(machine, image, fuel)[1], execute(machine, image, fuel)[3]),
                                 (plain.shown, plain.slots, plain.used))
                self.assertEqual(execute(machine, image, plain.used), execute(machine, image, fuel))
                self.assertRaises(FuelError, execute, machine, image, plain.used - 1)
        self.assertEqual(endings, {"halt", "fuel"})

    def test_times_by_chance(self):
        chance = random.Random(282)
        for _ in range(200):
            machine = ("machine", 3, chance.randint(1, 9), chance.randint(1, 9), chance.randint(1, 9))
            image = link([assemble(some_list(chance, chance.randint(1, 20), 3, (0, 7, 8)))])
            now = start(machine)
            steps = 0
            while now[1] != -1 and steps < 30:
                part, _ = decode(image, now[1])
                begin = max([now[5]] + [now[4][number] for number in reads(part)])
                after = advance(machine, image, now)
                ready = [begin + latency(machine, part) if number in writes(part) else now[4][number] for number in range(3)]
                self.assertEqual((after[4], after[5]), (tuple(ready), begin + 1))
                now, steps = after, steps + 1
            if now[1] == -1:
                self.assertEqual(execute(machine, image, 30), (list(now[6]), list(now[3]), now[5], steps))

    def test_arguments_stay_and_results_are_new(self):
        machine = ("machine", 2, 3, 4, 1)
        image = list(EXAMPLE)
        for _ in range(2):
            shown, told, _, _ = execute(machine, image, 9)
            self.assertEqual((shown, told), ([49], [0] * 64))
            shown.clear()
            told.clear()
            ending, shown = observe_image(machine, image, 9)
            self.assertEqual(shown, [49])
            shown.clear()
        before = start(machine)
        kept = copy.deepcopy(before)
        advance(machine, image, before)
        self.assertEqual((before, image), (kept, EXAMPLE))


if __name__ == "__main__":
    unittest.main()
