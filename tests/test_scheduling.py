"""Scheduling: points 24.1 to 24.5."""

import copy
import itertools
import random
import time
import unittest

from lists import some_list, some_straight
from scribeself.machines import latency, reads, writes
from scribeself.scheduling import best_order, check_schedule, dependences, is_order, profile, schedule, stretches

MACHINE = ("machine", 4, 3, 2, 1)
EXAMPLE = [("ld", 0, 7), ("op", "add", 1, 0, 0), ("ld", 2, 8), ("show", 1)]
STRAIGHT = {"li", "mov", "op", "ld", "st", "show"}


def some_machine(chance):
    return ("machine", chance.randint(2, 8), chance.randint(1, 9), chance.randint(1, 9), chance.randint(1, 9))


def plain_stretches(instructions):
    """Each straight instruction stands in the stretch of its neighbours, cut from the beginning of their run."""
    found = []
    for straight, group in itertools.groupby(range(len(instructions)), lambda at: instructions[at][0] in STRAIGHT):
        run = list(group)
        if straight:
            found += [(run[k], run[min(k + 8, len(run)) - 1] + 1) for k in range(0, len(run), 8)]
    return found


def plain_depends(one, two):
    if set(writes(one)) & set(reads(two) + writes(two)) or set(reads(one)) & set(writes(two)):
        return True
    if one[0] == two[0] == "show":
        return True
    return (one[0], two[0]) in [("st", "ld"), ("st", "st"), ("ld", "st")] and one[2] == two[2]


def numbers_in(stretch):
    return sorted({number for part in stretch for number in reads(part) + writes(part)})


def times_after(machine, stretch, cycle, ready):
    """`cycle` and `ready` after a stretch, told by the words of point 28.2; `ready` is at least `cycle`."""
    ready = dict(ready)
    for part in stretch:
        begin = max([cycle] + [ready[number] for number in reads(part)])
        for number in writes(part):
            ready[number] = begin + latency(machine, part)
        cycle = begin + 1
    return [cycle] + [max(ready[number], cycle) for number in sorted(ready)]


def plain_profile(machine, stretch):
    """The table by trying it out: a time that is far behind all others tells its own column."""
    numbers = numbers_in(stretch)
    first = times_after(machine, stretch, 0, {number: 0 for number in numbers})
    columns = [first]
    for number in numbers:
        late = times_after(machine, stretch, 0, {other: 10000 if other == number else 0 for other in numbers})
        columns.append([-1 if late[row] < 10000 else late[row] - 10000 for row in range(len(first))])
    return [list(row) for row in zip(*columns)]


def plain_is_order(machine, stretch, order):
    if sorted(order) != list(range(len(stretch))):
        return False
    for k, l in itertools.combinations(range(len(order)), 2):
        if order[k] > order[l] and plain_depends(stretch[order[l]], stretch[order[k]]):
            return False
    return is_below(plain_profile(machine, [stretch[at] for at in order]), plain_profile(machine, stretch))


def is_below(one, two):
    return all(a <= b for row, other in zip(one, two) for a, b in zip(row, other))


def is_good(machine, stretch):
    """Whether no exchange of two neighbours improves a stretch."""
    now = plain_profile(machine, stretch)
    for k in range(len(stretch) - 1):
        if not plain_depends(stretch[k], stretch[k + 1]):
            other = plain_profile(machine, stretch[:k] + [stretch[k + 1], stretch[k]] + stretch[k + 2:])
            if other != now and is_below(other, now):
                return False
    return True


class StretchesTest(unittest.TestCase):
    def test_example(self):
        self.assertEqual(stretches([("show", 0), ("jump", 3), ("label", 3), ("show", 0), ("show", 1)]), [(0, 1), (3, 5)])

    def test_how_many(self):
        for many, told in [(0, []), (1, [(0, 1)]), (7, [(0, 7)]), (8, [(0, 8)]), (9, [(0, 8), (8, 9)]), (16, [(0, 8), (8, 16)]),
                           (17, [(0, 8), (8, 16), (16, 17)]), (60, [(k, min(k + 8, 60)) for k in range(0, 60, 8)])]:
            self.assertEqual(stretches([("li", 0, 0)] * many), told)
            behind = [(first + 2, end + 2) for first, end in told]
            self.assertEqual(stretches([("label", 0), ("jz", 1, 0)] + [("show", 0)] * many), behind)
            self.assertEqual(stretches([("label", 0), ("jz", 1, 0)] + [("show", 0)] * many + [("jump", 0)]), behind)

    def test_kinds(self):
        for part in [("li", 0, 1), ("mov", 0, 1), ("op", "less", 0, 1, 2), ("ld", 0, 1), ("st", 0, 1), ("show", 0)]:
            self.assertEqual(stretches([part]), [(0, 1)])
        for part in [("label", 3), ("label", "a"), ("jump", "a"), ("jz", 0, "a"), ("halt",)]:
            self.assertEqual(stretches([part]), [])
            self.assertEqual(stretches([("show", 0), part, ("show", 0)]), [(0, 1), (2, 3)])
            self.assertEqual(stretches([part, part]), [])

    def test_lists_by_chance(self):
        chance = random.Random(241)
        for _ in range(200):
            told = some_list(chance, chance.randint(0, 40))
            self.assertEqual(stretches(told), plain_stretches(told))


class DependencesTest(unittest.TestCase):
    def test_example(self):
        self.assertEqual(dependences(EXAMPLE), [(0, 1), (1, 3)])
        self.assertEqual(dependences([]), [])
        self.assertEqual(dependences([("show", 0)]), [])

    def test_each_kind(self):
        for one, two, depends in [
                (("li", 0, 1), ("show", 0), True), (("li", 0, 1), ("li", 0, 1), True), (("show", 0), ("li", 0, 1), True),
                (("li", 0, 1), ("show", 1), False), (("li", 0, 1), ("li", 1, 1), False), (("mov", 1, 0), ("mov", 2, 0), False),
                (("mov", 1, 0), ("mov", 0, 1), True), (("op", "add", 2, 0, 1), ("li", 1, 0), True), (("op", "add", 2, 0, 1), ("li", 0, 0), True),
                (("op", "add", 2, 0, 1), ("op", "add", 3, 0, 1), False), (("li", 1, 0), ("op", "add", 2, 0, 1), True),
                (("st", 0, 5), ("ld", 1, 5), True), (("st", 0, 5), ("st", 1, 5), True), (("ld", 0, 5), ("st", 1, 5), True),
                (("ld", 0, 5), ("ld", 1, 5), False), (("st", 0, 5), ("ld", 1, 6), False), (("st", 0, 5), ("st", 0, 6), False),
                (("ld", 0, 5), ("st", 1, 6), False), (("ld", 5, 1), ("st", 1, 5), False), (("st", 0, 0), ("ld", 0, 1), True),
                (("show", 0), ("show", 1), True), (("show", 0), ("show", 0), True), (("show", 0), ("st", 0, 3), False)]:
            self.assertEqual(dependences([one, two]), [(0, 1)] if depends else [], (one, two))
            self.assertEqual(dependences([one, ("li", 77, 0), two]), [(0, 2)] if depends else [], (one, two))

    def test_all_pairs_are_told(self):
        self.assertEqual(dependences([("li", 0, 1)] * 3), [(0, 1), (0, 2), (1, 2)])

    def test_stretches_by_chance(self):
        chance = random.Random(242)
        for _ in range(300):
            stretch = some_straight(chance, chance.randint(0, 20), chance.randint(1, 9))
            told = [(i, j) for i in range(len(stretch)) for j in range(i + 1, len(stretch)) if plain_depends(stretch[i], stretch[j])]
            self.assertEqual(dependences(stretch), told)


class ProfileTest(unittest.TestCase):
    def test_example(self):
        self.assertEqual(profile(MACHINE, [("mov", 1, 0)]), [[1, 1, -1], [1, 1, -1], [1, 1, -1]])

    def test_registers_that_are_read_and_written(self):
        self.assertEqual(profile(MACHINE, []), [[0]])
        self.assertEqual(profile(MACHINE, [("show", 5)]), [[1, 1], [1, 1]])
        self.assertEqual(profile(MACHINE, [("li", 5, 0)]), [[1, -1], [1, -1]])
        self.assertEqual(profile(MACHINE, [("ld", 5, 0)]), [[1, -1], [3, -1]])
        self.assertEqual(profile(MACHINE, [("op", "mul", 5, 5, 5)]), [[1, 1], [2, 2]])
        # What is written has no effect on its register; a late register that is only read is late for what comes behind.
        self.assertEqual(profile(MACHINE, [("ld", 1, 0), ("st", 0, 0)]), [[2, 1, -1], [2, 1, -1], [3, 1, -1]])
        self.assertEqual(profile(MACHINE, [("st", 0, 0), ("ld", 1, 0)]), [[2, 2, -1], [2, 2, -1], [4, 4, -1]])
        self.assertEqual(profile(("machine", 2, 9, 9, 9), [("ld", 1, 0), ("li", 0, 0)]), [[2, -1, -1], [10, -1, -1], [9, -1, -1]])

    def test_columns_are_in_ascending_order(self):
        self.assertEqual(profile(MACHINE, [("show", 9), ("li", 2, 0)]), [[2, -1, 2], [2, -1, 2], [2, -1, 2]])
        self.assertEqual(profile(MACHINE, [("li", 9, 0), ("show", 2)]), [[2, 1, -1], [2, 1, -1], [2, 1, -1]])

    def test_times_by_chance(self):
        chance = random.Random(243)
        for _ in range(300):
            machine = some_machine(chance)
            stretch = some_straight(chance, chance.randint(0, 12), chance.randint(1, 6))
            table = profile(machine, stretch)
            self.assertEqual(table, plain_profile(machine, stretch))
            for row in table:
                self.assertEqual(row[0], max(row))
            for _ in range(5):
                cycle = chance.randrange(50)
                ready = {number: cycle + chance.choice([0, chance.randrange(30), 500]) for number in numbers_in(stretch)}
                before = [cycle] + [ready[number] for number in sorted(ready)]
                sums = [max(time + entry for time, entry in zip(before, row) if entry != -1) for row in table]
                self.assertEqual(sums, times_after(machine, stretch, cycle, ready))

    def test_long_stretches(self):
        chance = random.Random(2431)
        stretch = some_straight(chance, 60, 100)
        self.assertEqual(profile(MACHINE, stretch), plain_profile(MACHINE, stretch))


class OrdersTest(unittest.TestCase):
    def test_example(self):
        self.assertEqual(best_order(MACHINE, EXAMPLE), [0, 2, 1, 3])
        self.assertFalse(is_order(MACHINE, EXAMPLE, [1, 0, 2, 3]))
        self.assertTrue(is_order(MACHINE, EXAMPLE, [0, 2, 1, 3]))

    def test_no_orders(self):
        for order in [[0, 1, 2], [0, 1, 2, 2], [0, 1, 2, 4], [0, 1, 2, 3, 3], [-1, 0, 1, 2], [0, 1, 2, -1], [], [0, 1, 2, 3, 4], [1, 2, 3, 4], [0, 0, 0, 0]]:
            self.assertFalse(is_order(MACHINE, EXAMPLE, order), order)
        self.assertTrue(is_order(MACHINE, [], []))
        self.assertFalse(is_order(MACHINE, [], [0]))

    def test_an_order_that_breaks_a_dependence(self):
        stretch = [("li", 0, 1), ("li", 7, 1), ("st", 1, 3), ("ld", 2, 3), ("show", 5), ("show", 6)]
        self.assertTrue(is_order(MACHINE, stretch, [1, 0, 2, 3, 4, 5]))
        for order in [[0, 1, 3, 2, 4, 5], [0, 1, 2, 3, 5, 4]]:
            self.assertFalse(is_order(MACHINE, stretch, order), order)

    def test_an_order_that_makes_an_entry_greater(self):
        # What is loaded later is ready later, though the whole takes as long.
        stretch = [("ld", 0, 0), ("li", 1, 0)]
        self.assertTrue(is_order(MACHINE, stretch, [0, 1]))
        self.assertFalse(is_order(MACHINE, stretch, [1, 0]))
        self.assertTrue(is_order(("machine", 2, 1, 1, 1), stretch, [1, 0]))
        # A register that may be late must not hold up what did not wait for it.
        stretch = [("li", 0, 0), ("show", 1)]
        self.assertFalse(is_order(MACHINE, stretch, [1, 0]))
        self.assertTrue(is_order(MACHINE, stretch[::-1], [1, 0]))

    def test_orders_by_chance(self):
        chance = random.Random(244)
        allowed = 0
        for _ in range(400):
            machine = some_machine(chance)
            stretch = some_straight(chance, chance.randint(1, 5), chance.randint(1, 8))
            order = list(range(len(stretch)))
            chance.shuffle(order)
            told = plain_is_order(machine, stretch, order)
            allowed += told and order != sorted(order)
            self.assertEqual(is_order(machine, stretch, order), told)
        self.assertGreater(allowed, 20)

    def test_good_orders_by_chance(self):
        chance = random.Random(245)
        better = 0
        for _ in range(200):
            machine = some_machine(chance)
            stretch = some_straight(chance, chance.randint(0, 8), chance.randint(2, 12))
            order = best_order(machine, stretch)
            found = [stretch[at] for at in order]
            self.assertTrue(plain_is_order(machine, stretch, order))
            self.assertTrue(is_good(machine, found))
            better += order != sorted(order)
        self.assertGreater(better, 50)


class SchedulesTest(unittest.TestCase):
    def test_each_stretch(self):
        told = [("label", 0)] + EXAMPLE + [("jz", 1, 0)] + EXAMPLE
        better = [EXAMPLE[at] for at in [0, 2, 1, 3]]
        self.assertEqual(schedule(MACHINE, told), [("label", 0)] + better + [("jz", 1, 0)] + better)
        self.assertEqual(schedule(MACHINE, []), [])
        # The borders between the stretches of a long run are kept.
        told = [("li", k, 0) for k in range(4)] + EXAMPLE[:3] + [("li", 9, 0), ("show", 1)]
        self.assertEqual(schedule(MACHINE, told)[8:], told[8:])

    def test_check(self):
        told = [("label", 0)] + EXAMPLE + [("jz", 1, 0)] + EXAMPLE
        found = schedule(MACHINE, told)
        self.assertIs(check_schedule(MACHINE, told, found), True)
        self.assertIs(check_schedule(MACHINE, told, told), True)
        self.assertIs(check_schedule(MACHINE, [], []), True)
        for wrong in [found[:-1], found + [("halt",)], [], [("label", 1)] + found[1:], found[:5] + [("jz", 2, 0)] + found[6:],
                      found[:1] + [("ld", 0, 6)] + found[2:], found[:1] + [found[4]] + found[2:4] + [found[1]] + found[5:],
                      found[:2] + [found[1]] + found[3:], found[1:] + found[:1]]:
            self.assertIs(check_schedule(MACHINE, told, wrong), False)
        # From a good order back to a worse one.
        self.assertIs(check_schedule(MACHINE, found, told), False)

    def test_what_moves_out_of_its_stretch(self):
        told = [("li", 0, 1), ("label", 3), ("li", 1, 1)]
        self.assertFalse(check_schedule(MACHINE, told, [("li", 1, 1), ("label", 3), ("li", 0, 1)]))
        self.assertFalse(check_schedule(MACHINE, told, [("label", 3), ("li", 0, 1), ("li", 1, 1)]))
        told = [("li", k, 0) for k in range(9)]
        self.assertFalse(check_schedule(MACHINE, told, told[:7] + [told[8], told[7]]))
        self.assertTrue(check_schedule(("machine", 2, 1, 1, 1), told, told[:6] + [told[7], told[6], told[8]]))

    def test_equal_instructions(self):
        told = [("show", 0), ("li", 1, 0), ("show", 0)]
        self.assertTrue(check_schedule(MACHINE, told, told))
        self.assertEqual(check_schedule(MACHINE, told, [told[0], told[2], told[1]]), is_order(MACHINE, told, [0, 2, 1]))
        self.assertFalse(check_schedule(MACHINE, told, [told[0], told[0], told[0]]))
        self.assertFalse(check_schedule(MACHINE, told, [told[0], told[1], told[1]]))

    def test_lists_by_chance(self):
        chance = random.Random(246)
        for _ in range(100):
            machine = some_machine(chance)
            told = some_list(chance, chance.randint(1, 40), 8)
            found = schedule(machine, told)
            self.assertTrue(check_schedule(machine, told, found))
            for first, end in plain_stretches(told):
                places = [told.index(part, first, end) for part in found[first:end]]
                if len(set(places)) == len(places):
                    self.assertTrue(plain_is_order(machine, told[first:end], [at - first for at in places]))
                self.assertTrue(is_good(machine, found[first:end]))
                numbers = numbers_in(told[first:end])
                cycle = chance.randrange(9)
                ready = {number: cycle + chance.randrange(12) for number in numbers}
                self.assertTrue(all(one <= two for one, two in zip(times_after(machine, found[first:end], cycle, ready),
                                                                   times_after(machine, told[first:end], cycle, ready))))

    def test_checks_by_chance(self):
        chance = random.Random(247)
        told = set()
        for _ in range(300):
            machine = some_machine(chance)
            stretch = some_straight(chance, chance.randint(1, 4), 6)
            order = list(range(len(stretch)))
            chance.shuffle(order)
            if len(set(stretch)) == len(stretch):
                found = [("halt",)] + [stretch[at] for at in order] + [("halt",)]
                fine = plain_is_order(machine, stretch, order)
                self.assertEqual(check_schedule(machine, [("halt",)] + stretch + [("halt",)], found), fine)
                told.add(fine)
        self.assertEqual(told, {True, False})

    def test_long_lists(self):
        chance = random.Random(248)
        told = some_straight(chance, 4000, 24)
        begun = time.time()
        self.assertTrue(check_schedule(MACHINE, told, schedule(MACHINE, told)))
        self.assertLess(time.time() - begun, 30)

    def test_arguments_stay_and_results_are_new(self):
        told = [("label", 0)] + EXAMPLE
        before = copy.deepcopy(told)
        for call in [stretches, lambda given: dependences(given[1:]), lambda given: profile(MACHINE, given[1:]), lambda given: best_order(MACHINE, given[1:]),
                     lambda given: schedule(MACHINE, given)]:
            first = call(told)
            kept = copy.deepcopy(first)
            for part in first:
                if isinstance(part, list):
                    part.clear()
            first.clear()
            self.assertEqual(call(told), kept)
            self.assertEqual(told, before)
        order = [0, 2, 1, 3]
        is_order(MACHINE, EXAMPLE, order)
        check_schedule(MACHINE, told, told)
        self.assertEqual((order, told), ([0, 2, 1, 3], before))
        for told in [[], [("jump", "a")], [("show", 0)]]:
            self.assertIsNot(schedule(MACHINE, told), told)


if __name__ == "__main__":
    unittest.main()
