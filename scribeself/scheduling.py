"""Scheduling: better orders of the straight instructions between jumps and labels."""

from scribeself.machines import latency, reads, slot_read, slot_written, writes

STRAIGHT = ("li", "mov", "op", "ld", "st", "show")
LONGEST = 8
NO_EFFECT = -1


def stretches(instructions):
    """The ascending list of the pairs of the first index of each stretch and the index after its last one."""
    found = []
    first = 0
    for at, instruction in enumerate(instructions):
        if instruction[0] not in STRAIGHT:
            if first < at:
                found.append((first, at))
            first = at + 1
        elif at + 1 - first == LONGEST:
            found.append((first, at + 1))
            first = at + 1
    if first < len(instructions):
        found.append((first, len(instructions)))
    return found


def dependences(stretch):
    """The ascending list of the pairs of indexes of which the second one depends on the first one."""
    many = range(len(stretch))
    return [(i, j) for i in many for j in many if i < j and depends(stretch[j], stretch[i])]


def depends(later, earlier):
    """Whether an instruction depends on an earlier one; it would then depend on it the other way round, too."""
    if later[0] == "show" and earlier[0] == "show":
        return True
    if meets(writes(earlier), reads(later) + writes(later)) or meets(reads(earlier), writes(later)):
        return True
    slot = slot_written(earlier)
    if slot is not None and slot in (slot_read(later), slot_written(later)):
        return True
    slot = slot_read(earlier)
    return slot is not None and slot == slot_written(later)


def meets(first, second):
    """Whether two lists have an item in common."""
    return any([item in second for item in first])


class Times:
    """The instructions of a stretch, prepared for profiles.

    `parts` has for each instruction the rows of the registers that it reads, the list of the row of the register that
    it writes, and its latency. `before` is the table of the times ahead of the first instruction.
    """

    def __init__(self, machine, stretch):
        numbers = sorted({number for part in stretch for number in reads(part) + writes(part)})
        rows = {number: at + 1 for at, number in enumerate(numbers)}
        self.parts = []
        for part in stretch:
            read = [rows[number] for number in reads(part)]
            self.parts.append((read, [rows[number] for number in writes(part)], latency(machine, part)))
        # Each `ready` is at least `cycle`, so the first column stands for the least time of all.
        self.before = [[0] + [NO_EFFECT] * len(numbers)]
        for at in range(len(numbers)):
            self.before.append([0] + [0 if at == other else NO_EFFECT for other in range(len(numbers))])

    def profile(self, order):
        """The profile of the stretch in an order of its indexes."""
        times = list(self.before)
        for at in order:
            read, goals, late = self.parts[at]
            begin = times[0]
            for row in read:
                begin = greatest(begin, times[row])
            times[0] = shifted(begin, 1)
            for row in goals:
                times[row] = shifted(begin, late)
        return [greatest(row, times[0]) for row in times]


def greatest(first, second):
    """The row with the greater one of each two entries."""
    return [one if one > two else two for one, two in zip(first, second)]


def shifted(row, more):
    """The row of a time that is later by a number of cycles."""
    return [entry + more if entry >= 0 else NO_EFFECT for entry in row]


def profile(machine, stretch):
    """The profile of a stretch: the times after it by those before it."""
    return Times(machine, stretch).profile(list(range(len(stretch))))


def no_greater(first, second):
    """Whether no entry of a profile is greater than that of another one."""
    return all([one <= two for row, other in zip(first, second) for one, two in zip(row, other)])


def is_order(machine, stretch, order):
    """Whether a list of integers is an allowed order of a stretch."""
    if sorted(order) != list(range(len(stretch))):
        return False
    places = {at: place for place, at in enumerate(order)}
    if not all([places[i] < places[j] for i, j in dependences(stretch)]):
        return False
    times = Times(machine, stretch)
    return no_greater(times.profile(order), times.profile(list(range(len(stretch)))))


def best_order(machine, stretch):
    """A good order of a stretch: an allowed one that no exchange of two neighbours improves."""
    times = Times(machine, stretch)
    # Two neighbours that stand the other way round were exchanged, so neither depends on the other one.
    bound = {pair: True for pair in dependences(stretch)}
    order = list(range(len(stretch)))
    better = improved(times, bound, order)
    while better is not None:
        order = better
        better = improved(times, bound, order)
    return order


def improved(times, bound, order):
    """The order after the first exchange of two neighbours that improves it, or None if there is none."""
    now = times.profile(order)
    for at in range(len(order) - 1):
        if (order[at], order[at + 1]) not in bound:
            other = order[:at] + [order[at + 1], order[at]] + order[at + 2:]
            told = times.profile(other)
            if told != now and no_greater(told, now):
                return other
    return None


def schedule(machine, instructions):
    """The list with each stretch in a good order."""
    found = list(instructions)
    for first, end in stretches(instructions):
        stretch = instructions[first:end]
        found[first:end] = [stretch[at] for at in best_order(machine, stretch)]
    return found


def check_schedule(machine, instructions, scheduled):
    """Whether a list is another one with each stretch in an allowed order."""
    done = 0
    for first, end in stretches(instructions):
        order = order_between(instructions[first:end], scheduled[first:end])
        if scheduled[done:first] != instructions[done:first] or not is_order(machine, instructions[first:end], order):
            return False
        done = end
    # Lists of different lengths differ in a stretch, or behind the last one.
    return scheduled[done:] == instructions[done:]


def order_between(old, new):
    """The indexes at which the instructions of a list stand in another one, with equal ones in their old order.

    An instruction that is not there, or not often enough, has the index -1.
    """
    places = {}
    for at, part in enumerate(old):
        places.setdefault(part, []).append(at)
    return [places[part].pop(0) if places.get(part) else -1 for part in new]
