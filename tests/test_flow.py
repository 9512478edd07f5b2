"""Flow: points 23.1 to 23.5."""

import copy
import random
import time
import unittest

from lists import PlainPlay, plain_entries, plain_live, plain_successors, some_list
from scribeself.flow import (drop_dead, entries, live, live_path, mentioned, predecessors, reachable, reaching, reaching_path, successors)
from scribeself.machines import reads, writes

EXAMPLE = [("li", 0, 2), ("label", 5), ("mov", 1, 0), ("jz", 0, 6), ("jump", 5), ("label", 6), ("show", 0)]


def plain_reaching(instructions):
    after = plain_successors(instructions)
    registers = {number for part in instructions for number in reads(part) + writes(part)}
    found = [set() for _ in after]
    for at in plain_entries(instructions):
        found[at] = {(number, -1) for number in registers}
    while True:
        before = copy.deepcopy(found)
        for at, instruction in enumerate(instructions):
            passed = {one for one in found[at] if one[0] not in writes(instruction)} | {(number, at) for number in writes(instruction)}
            for other in after[at]:
                found[other] |= passed
        if found == before:
            return found


def plain_drop(instructions):
    while True:
        known = plain_live(instructions)
        dead = [at for at, part in enumerate(instructions) if part[0] in ("li", "mov", "op", "ld") and writes(part)[0] not in known[at + 1]]
        if not dead:
            return instructions
        instructions = instructions[:dead[-1]] + instructions[dead[-1] + 1:]


def chain(many):
    """A long list in which each instruction reads what the one before wrote, with jumps back and named labels in between."""
    found = []
    for k in range(many // 4):
        found += [("label", k if k % 5 else "n" + str(k)), ("op", "add", k % 90, (k + 1) % 90, (k * 7) % 90), ("jz", k % 90, k // 2 if k // 2 % 5 else "n" + str(k // 2)),
                  ("mov", (k + 50) % 90, k % 90)]
    return found


class NodesTest(unittest.TestCase):
    def test_example(self):
        self.assertEqual(successors(EXAMPLE), [[1], [2], [3], [4, 5], [1], [6], [7], []])
        self.assertEqual(live(EXAMPLE), [[], [0], [0], [0], [0], [0], [0], []])
        self.assertEqual(live_path(EXAMPLE, 2, 0), [2])
        self.assertEqual(reaching(EXAMPLE)[2], [(0, 0), (1, -1), (1, 2)])
        self.assertEqual(len(drop_dead(EXAMPLE)), 6)

    def test_the_empty_list(self):
        self.assertEqual((successors([]), predecessors([]), entries([]), reachable([]), mentioned([])), ([[]], [[]], [0], [0], []))
        self.assertEqual((live([]), reaching([]), drop_dead([]), live_path([], 0, 3)), ([[]], [[]], [], None))

    def test_successors(self):
        self.assertEqual(successors([("halt",), ("show", 0)]), [[2], [2], []])
        self.assertEqual(successors([("jump", "out"), ("jz", 0, "out"), ("jz", 0, "in"), ("label", "in"), ("jump", "in")]), [[5], [2, 5], [3], [4], [3], []])
        self.assertEqual(successors([("jz", 0, "out")]), [[1], []])
        self.assertEqual(successors([("label", 0), ("jz", 0, 0), ("jump", 1), ("label", 1)]), [[1], [0, 2], [3], [4], []])
        self.assertEqual(successors([("jump", 0), ("label", 0)]), [[1], [2], []])
        self.assertEqual(successors([("label", 3), ("jump", 3)]), [[1], [0], []])
        for part in [("li", 0, 1), ("mov", 0, 0), ("op", "add", 0, 0, 0), ("ld", 0, 0), ("st", 0, 0), ("show", 0), ("label", "a")]:
            self.assertEqual(successors([part]), [[1], []])

    def test_predecessors(self):
        self.assertEqual(predecessors(EXAMPLE), [[], [0, 4], [1], [2], [3], [3], [5], [6]])
        self.assertEqual(predecessors([("halt",), ("jump", "out"), ("jz", 0, 1), ("label", 1)]), [[], [], [], [2], [0, 1, 3]])

    def test_entries(self):
        self.assertEqual(entries(EXAMPLE), [0])
        self.assertEqual(entries([("label", "a"), ("label", 5), ("label", "b"), ("jump", "c")]), [0, 2])
        self.assertEqual(entries([("halt",), ("halt",), ("label", "a")]), [0, 2])

    def test_reachable(self):
        self.assertEqual(reachable(EXAMPLE), list(range(8)))
        self.assertEqual(reachable([("halt",), ("show", 0), ("label", "a"), ("jump", 7), ("show", 0), ("label", 7), ("jump", "a")]), [0, 2, 3, 5, 6, 7])
        self.assertEqual(reachable([("label", 0), ("jump", 0), ("show", 0)]), [0, 1])
        self.assertEqual(reachable([("jump", 1), ("label", 0), ("label", 1)]), [0, 2, 3])

    def test_mentioned(self):
        self.assertEqual(mentioned(EXAMPLE), [0, 1])
        self.assertEqual(mentioned([("li", 9, 1), ("mov", 2, 4), ("op", "add", 2, 8, 8), ("ld", 1, 60), ("st", 12, 3), ("show", 0), ("jz", 9999, "a"), ("halt",)]),
                         [0, 1, 2, 4, 8, 9, 12, 9999])

    def test_lists_by_chance(self):
        chance = random.Random(231)
        for _ in range(300):
            told = some_list(chance, chance.randint(1, 20), 4)
            after = plain_successors(told)
            self.assertEqual(successors(told), [sorted(found) for found in after])
            self.assertEqual(predecessors(told), [[at for at, found in enumerate(after) if other in found] for other in range(len(told) + 1)])
            self.assertEqual(entries(told), sorted(plain_entries(told)))
            found = plain_entries(told)
            while not all(after[at] <= found for at in found):
                found |= {other for at in found for other in after[at]}
            self.assertEqual(reachable(told), sorted(found))


class LiveTest(unittest.TestCase):
    def path_right(self, told, path, at, number):
        after = successors(told)
        self.assertEqual(path[0], at)
        self.assertLessEqual(len(path), len(told) + 2)
        for one, two in zip(path, path[1:]):
            self.assertIn(two, after[one])
            self.assertNotIn(number, writes(told[one]))
        self.assertIn(number, reads(told[path[-1]]))

    def test_live(self):
        self.assertEqual(live([("show", 3), ("op", "add", 1, 1, 2), ("show", 1)]), [[1, 2, 3], [1, 2], [1], []])
        self.assertEqual(live([("li", 0, 1), ("st", 0, 5), ("ld", 0, 5), ("mov", 1, 0), ("jz", 1, "out"), ("halt",), ("show", 7)]),
                         [[], [0], [], [0], [1], [], [7], []])
        # Nothing is live at the end, neither behind a jump to another list.
        self.assertEqual(live([("li", 0, 1), ("jump", "out"), ("show", 0)]), [[], [], [0], []])

    def test_a_node_that_reads_and_writes(self):
        told = [("li", 0, 0), ("label", 1), ("op", "add", 0, 0, 0), ("jump", 1)]
        self.assertEqual(live(told), [[], [0], [0], [0], []])
        self.assertEqual(live_path(told, 2, 0), [2])
        self.assertEqual(live_path(told, 3, 0), [3, 1, 2])
        self.assertIsNone(live_path(told, 0, 0))

    def test_paths(self):
        self.assertEqual(live_path(EXAMPLE, 4, 0), [4, 1, 2])
        for at in range(8):
            self.assertIsNone(live_path(EXAMPLE, at, 1))
            self.assertIsNone(live_path(EXAMPLE, at, 77))
        self.assertIsNone(live_path(EXAMPLE, 7, 0))
        self.assertIsNone(live_path(EXAMPLE, 0, 0))

    def test_lists_by_chance(self):
        chance = random.Random(233)
        for _ in range(300):
            told = some_list(chance, chance.randint(1, 20), 4)
            found = plain_live(told)
            self.assertEqual(live(told), [sorted(one) for one in found])
            for at in range(len(told) + 1):
                for number in range(5):
                    path = live_path(told, at, number)
                    if number in found[at]:
                        self.path_right(told, path, at, number)
                    else:
                        self.assertIsNone(path)


class ReachingTest(unittest.TestCase):
    def path_right(self, told, path, at, number, index):
        after = successors(told)
        self.assertEqual(path[-1], at)
        self.assertLessEqual(len(path), len(told) + 2)
        if index == -1:
            self.assertIn(path[0], entries(told))
        else:
            self.assertEqual(path[0], index)
            self.assertGreater(len(path), 1)
        for one, two in zip(path, path[1:]):
            self.assertIn(two, after[one])
        for one in path[:-1] if index == -1 else path[1:-1]:
            self.assertNotIn(number, writes(told[one]))

    def test_reaching(self):
        told = [("li", 0, 1), ("li", 0, 2), ("mov", 2, 0), ("halt",), ("show", 3)]
        start = [(0, -1), (2, -1), (3, -1)]
        self.assertEqual(reaching(told), [start, [(0, 0), (2, -1), (3, -1)], [(0, 1), (2, -1), (3, -1)], [(0, 1), (2, 2), (3, -1)], [], [(0, 1), (2, 2), (3, -1)]])

    def test_named_labels(self):
        told = [("li", 0, 1), ("label", "a"), ("show", 0), ("li", 0, 2), ("jump", "a")]
        self.assertEqual(reaching(told), [[(0, -1)], [(0, -1), (0, 0), (0, 3)], [(0, -1), (0, 0), (0, 3)], [(0, -1), (0, 0), (0, 3)], [(0, 3)], []])

    def test_a_setting_that_comes_back(self):
        told = [("label", 0), ("op", "add", 0, 0, 0), ("jz", 0, 0)]
        self.assertEqual(reaching(told), [[(0, -1), (0, 1)], [(0, -1), (0, 1)], [(0, 1)], [(0, 1)]])
        self.assertEqual(reaching_path(told, 1, 0, 1), [1, 2, 0, 1])
        self.assertEqual(reaching_path(told, 1, 0, -1), [0, 1])
        self.assertEqual(reaching_path(told, 0, 0, -1), [0])
        self.assertIsNone(reaching_path(told, 2, 0, -1))
        self.assertEqual(reaching_path(told, 3, 0, 1), [1, 2, 3])

    def test_paths_from_entries(self):
        told = [("li", 0, 1), ("halt",), ("label", "a"), ("show", 0)]
        self.assertEqual(reaching_path(told, 3, 0, -1), [2, 3])
        self.assertEqual(reaching_path(told, 4, 0, 0), [0, 1, 4])
        self.assertIsNone(reaching_path(told, 3, 0, 0))
        self.assertIsNone(reaching_path(told, 1, 0, -1))
        self.assertEqual(reaching_path(told, 0, 0, -1), [0])

    def test_lists_by_chance(self):
        chance = random.Random(234)
        for _ in range(300):
            told = some_list(chance, chance.randint(1, 16), 3)
            found = plain_reaching(told)
            self.assertEqual(reaching(told), [sorted(one) for one in found])
            settings = [(number, -1) for number in mentioned(told)] + [(number, at) for at, part in enumerate(told) for number in writes(part)]
            for at in range(len(told) + 1):
                for number, index in settings:
                    path = reaching_path(told, at, number, index)
                    if (number, index) in found[at]:
                        self.path_right(told, path, at, number, index)
                    else:
                        self.assertIsNone(path)


class DeadTest(unittest.TestCase):
    def test_what_is_dead(self):
        for part in [("li", 0, 1), ("mov", 0, 1), ("op", "mul", 0, 1, 2), ("ld", 0, 3)]:
            self.assertEqual(drop_dead([part]), [])
            self.assertEqual(drop_dead([part, ("show", 0)]), [part, ("show", 0)])
            self.assertEqual(drop_dead([part, ("show", 1)]), [("show", 1)])
            self.assertEqual(drop_dead([part, ("li", 0, 5), ("show", 0)]), [("li", 0, 5), ("show", 0)])
        kept = [("st", 0, 1), ("show", 0), ("jz", 0, "a"), ("jump", 3), ("label", 3), ("label", "a"), ("halt",)]
        self.assertEqual(drop_dead(kept), kept)

    def test_others_that_become_dead(self):
        told = [("li", 0, 1), ("li", 1, 2), ("op", "add", 2, 0, 1), ("mov", 3, 2), ("show", 0)]
        self.assertEqual(drop_dead(told), [("li", 0, 1), ("show", 0)])
        # The second and the third need each other only on the way round.
        told = [("label", 0), ("mov", 1, 2), ("mov", 2, 1), ("jz", 3, 0)]
        self.assertEqual(drop_dead(told), told)
        told = [("label", 0), ("mov", 1, 2), ("li", 2, 5), ("jz", 3, 0)]
        self.assertEqual(drop_dead(told), [("label", 0), ("jz", 3, 0)])

    def test_an_instruction_that_writes_what_it_reads(self):
        told = [("label", 0), ("op", "add", 0, 0, 1), ("jump", 0)]
        self.assertEqual(drop_dead(told), told)
        self.assertEqual(drop_dead([("op", "add", 0, 0, 1), ("halt",)]), [("halt",)])

    def test_lists_by_chance(self):
        chance = random.Random(235)
        fewer = 0
        for _ in range(400):
            told = some_list(chance, chance.randint(1, 20), 5)
            found = drop_dead(told)
            fewer += len(found) < len(told)
            self.assertEqual(found, plain_drop(told))
            one, two = PlainPlay(told, 300), PlainPlay(found, 300)
            if one.ending != "fuel":
                self.assertEqual((one.ending, one.shown, one.slots), (two.ending, two.shown, two.slots))
        self.assertGreater(fewer, 100)


class LongTest(unittest.TestCase):
    def test_long_lists(self):
        begun = time.time()
        for told in [chain(2000), [("li", k, k) for k in range(2000)], [("mov", k + 1, k) for k in range(2000)],
                     [("li", k, 0) for k in range(1000)] + [("show", k) for k in range(1000)]]:
            self.assertEqual(len(told), 2000)
            self.assertEqual(len(live(told)), 2001)
            self.assertEqual(len(reaching(told)), 2001)
            self.assertEqual(reachable(told)[-1], 2000)
            drop_dead(told)
        self.assertLess(time.time() - begun, 60)
        told = [("mov", k + 1, k) for k in range(1999)]
        self.assertEqual(drop_dead(told), [])
        self.assertEqual(drop_dead(told + [("show", 1999)]), told + [("show", 1999)])

    def test_long_paths(self):
        told = [("li", 0, 0)] + [("label", k) for k in range(1998)] + [("show", 0)]
        self.assertEqual(live_path(told, 1, 0), list(range(1, 2000)))
        self.assertEqual(reaching_path(told, 1999, 0, 0), list(range(2000)))

    def test_arguments_stay_and_results_are_new(self):
        told = copy.deepcopy(EXAMPLE)
        for call in [successors, predecessors, entries, reachable, mentioned, live, reaching, drop_dead, lambda given: live_path(given, 4, 0),
                     lambda given: reaching_path(given, 2, 1, 2)]:
            found = call(told)
            before = copy.deepcopy(found)
            for part in found:
                if isinstance(part, list):
                    part.append("more")
            found.append("more")
            self.assertEqual(call(told), before)
            self.assertEqual(told, EXAMPLE)


if __name__ == "__main__":
    unittest.main()
