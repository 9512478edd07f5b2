"""Cores and copies: a list of instructions as those of them that do something, and what the copies between them do.

A place is the number of a register, or that of a slot from 16 up.
"""

from scribeself.flow import reachable
from scribeself.machines import places_of, target, writes

FIRST_PLACE_SLOT = 16

# Where the registers stand that each kind of core reads and writes.
READ_AT = {"op": (3, 4), "st": (1,), "show": (1,), "jz": (1,)}
WRITTEN_AT = {"li": (1,), "op": (2,), "ld": (1,)}


def copy_of(instruction):
    """The pair of places to which and from which an instruction copies, or None if it is a core."""
    kind = instruction[0]
    if kind == "mov":
        return instruction[1:]
    if kind in ("ld", "st") and instruction[2] >= FIRST_PLACE_SLOT:
        _, number, slot = instruction
        return (number, slot) if kind == "ld" else (slot, number)
    return None


def shape_of(core):
    """A core without its registers."""
    kind = core[0]
    numbers = READ_AT.get(kind, ()) + WRITTEN_AT.get(kind, ())
    return [None if at in numbers else part for at, part in enumerate(core)]


class Cores:
    """The cores of a list. `gaps` has for each core, and for the end, what the copies directly ahead of it do.

    That is a dict from the places that they change to those in which the value was before.
    """

    def __init__(self, instructions):
        self.cores = []
        self.gaps = [{}]
        for instruction in instructions:
            pair = copy_of(instruction)
            if pair is None:
                self.cores.append(instruction)
                self.gaps.append({})
            else:
                goal, origin = pair
                gap = self.gaps[-1]
                gap[goal] = gap.get(origin, origin)

    def place_before(self, at, place, passed):
        """The place behind the core before the one at an index that has the value of a place there.

        If the copies are not passed, it is the same one.
        """
        return self.gaps[at].get(place, place) if passed else place


def differing(source, goal):
    """The least number of a core in which two lists do not have the same shape, or None if they have it."""
    for at in range(max(len(source.cores), len(goal.cores))):
        if at >= len(source.cores) or at >= len(goal.cores):
            return at
        if shape_of(source.cores[at]) != shape_of(goal.cores[at]):
            return at
    return None


def reachable_cores(cores):
    """The ascending list of the reachable cores, without the end."""
    return [at for at in reachable(cores) if at < len(cores)]


def ways_to(cores):
    """For each core the list of the ways to it: a reachable core before it, and whether the copies are passed."""
    places = places_of(cores)
    found = [[] for _ in cores]
    for at in reachable_cores(cores):
        if cores[at][0] not in ("jump", "halt") and at + 1 < len(cores):
            found[at + 1].append((at, True))
        label = target(cores[at])
        if label in places:
            found[places[label]].append((at, False))
    return found


def agrees_after(core, other, number, place):
    """Whether a register agrees with a place after a core of the source and that of the target.

    None if it does so exactly if it did before.
    """
    goals = writes(core) + writes(other)
    if number not in goals[:1] and place not in goals[1:]:
        return None
    return goals == [number, place]


def first_reads(source, goal):
    """The list of (core, register, place) for all that reachable cores of the source and the target read."""
    return [(at, source.cores[at][k], goal.cores[at][k])
            for at in reachable_cores(source.cores)
            for k in READ_AT.get(source.cores[at][0], ())]


def witness_of(source, goal):
    """A witness that a target of the right shape is not a right allocation, or None.

    What must agree ahead of a core is followed back, way by way, to a core after which it does not agree. Such a
    register is live on the way, so in a source the way does not lead over a core that places a name.
    """
    ways = ways_to(source.cores)
    queue = first_reads(source, goal)
    behind = {state: None for state in queue}
    done = 0
    while done < len(queue):
        state = queue[done]
        done += 1
        at, number, place = state
        for before, passed in ways[at]:
            one = source.place_before(at, number, passed)
            other = goal.place_before(at, place, passed)
            agrees = agrees_after(source.cores[before], goal.cores[before], one, other)
            if agrees is False:
                return path_from(before, state, behind)
            if agrees is None and (before, one, other) not in behind:
                behind[(before, one, other)] = state
                queue.append((before, one, other))
    return None


def path_from(first, state, behind):
    """The witness whose path begins with a core and goes on along what must agree."""
    path = [state]
    while behind[path[-1]] is not None:
        path.append(behind[path[-1]])
    _, number, place = path[-1]
    return ("path", [first] + [at for at, _, _ in path], number, place)
