"""Real registers: which registers interfere, allocations, and their check."""

from scribeself.cores import FIRST_PLACE_SLOT, Cores, differing, witness_of
from scribeself.errors import MachineError
from scribeself.flow import live
from scribeself.machines import check_list
from scribeself.placing import in_places, neighbours


def interference(instructions):
    """The ascending list of all pairs of registers that interfere, each with the lesser one first."""
    around = neighbours(instructions)
    return sorted([(one, other) for one in around for other in around[one] if one < other])


def allocate(instructions, registers):
    """A right allocation of a source for a number of registers; raise MachineError or SpillError."""
    check_list(instructions, None)
    check_source(instructions)
    return in_places(instructions, registers)


def check_source(instructions):
    """Raise MachineError for the first instruction that keeps a valid list from being a source."""
    known = live(instructions)
    for at, instruction in enumerate(instructions):
        kind = instruction[0]
        if kind in ("ld", "st") and instruction[2] >= FIRST_PLACE_SLOT:
            raise MachineError(at)
        if kind == "label" and isinstance(instruction[1], str) and known[at]:
            raise MachineError(at)


def check_allocation(instructions, allocated):
    """None for a right allocation; otherwise the place where the shapes differ, or a witness."""
    source, goal = Cores(instructions), Cores(allocated)
    at = differing(source, goal)
    return witness_of(source, goal) if at is None else ("shape", at)
