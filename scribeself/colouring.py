"""Real registers: which registers interfere, allocations, and their check."""

from scribeself.cores import FIRST_PLACE_SLOT, READ_AT, WRITTEN_AT, Cores, differing, witness_of
from scribeself.errors import MachineError
from scribeself.flow import live
from scribeself.machines import check_list
from scribeself.placing import is_slot, neighbours, places_for


def interference(instructions):
    """The ascending list of all pairs of registers that interfere, each with the lesser one first."""
    around = neighbours(instructions)
    return sorted([(one, other) for one in around for other in around[one] if one < other])


def allocate(instructions, registers):
    """A right allocation of a source for a number of registers; raise MachineError or SpillError."""
    check_list(instructions, None)
    check_source(instructions)
    places = places_for(instructions, registers)
    found = []
    for instruction in instructions:
        found.extend(placed(instruction, places))
    return found


def check_source(instructions):
    """Raise MachineError for the first instruction that keeps a valid list from being a source."""
    known = live(instructions)
    for at, instruction in enumerate(instructions):
        kind = instruction[0]
        if kind in ("ld", "st") and instruction[2] >= FIRST_PLACE_SLOT:
            raise MachineError(at)
        if kind == "label" and isinstance(instruction[1], str) and known[at]:
            raise MachineError(at)


def placed(instruction, places):
    """The instructions that do with places what an instruction does with registers."""
    kind = instruction[0]
    if kind == "mov":
        return moved(places[instruction[1]], places[instruction[2]])
    core = list(instruction)
    helpers = {}
    for at in READ_AT.get(kind, ()):
        place = places[instruction[at]]
        if is_slot(place):
            helpers.setdefault(place, len(helpers))
        core[at] = helpers.get(place, place)
    behind = []
    for at in WRITTEN_AT.get(kind, ()):
        core[at] = places[instruction[at]]
        if is_slot(core[at]):
            behind.append(("st", 0, core[at]))
            core[at] = 0
    return [("ld", helpers[place], place) for place in helpers] + [tuple(core)] + behind


def moved(goal, origin):
    """The instructions that copy the value in a place to another one."""
    if goal == origin:
        return []
    if is_slot(goal):
        return [("ld", 0, origin), ("st", 0, goal)] if is_slot(origin) else [("st", origin, goal)]
    return [("ld", goal, origin)] if is_slot(origin) else [("mov", goal, origin)]


def check_allocation(instructions, allocated):
    """None for a right allocation; otherwise the place where the shapes differ, or a witness."""
    source, goal = Cores(instructions), Cores(allocated)
    at = differing(source, goal)
    return witness_of(source, goal) if at is None else ("shape", at)
