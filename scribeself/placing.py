"""Places for the registers of a list, such that registers that interfere have different ones, and code for them."""

from heapq import heapify, heappop, heappush

from scribeself.cores import FIRST_PLACE_SLOT, READ_AT, WRITTEN_AT
from scribeself.errors import SpillError
from scribeself.flow import live
from scribeself.machines import SLOTS, reads, writes

# Values that are not in registers are brought through these.
HELPERS = 2


def neighbours(instructions):
    """A dict from each register of a list to a dict of those with which it interferes."""
    known = live(instructions)
    around = {}
    for at, instruction in enumerate(instructions):
        for number in reads(instruction) + writes(instruction):
            around.setdefault(number, {})
        for number in writes(instruction):
            for other in known[at + 1]:
                around.setdefault(other, {})
                if other != number and instruction != ("mov", number, other):
                    around[number][other] = True
                    around[other][number] = True
    return around


def partners_of(instructions):
    """A dict from the registers of the instructions "mov" to the lists of those on the other side."""
    found = {}
    for instruction in instructions:
        if instruction[0] == "mov":
            _, goal, origin = instruction
            found.setdefault(goal, []).append(origin)
            found.setdefault(origin, []).append(goal)
    return found


def few_ahead(around):
    """The registers in an order in which few neighbours stand ahead of each: again and again, one with few is last."""
    many = {number: len(around[number]) for number in around}
    queue = [(many[number], number) for number in many]
    heapify(queue)
    order = []
    while queue:
        size, number = heappop(queue)
        # A register is in the queue once for each number of neighbours that it has had; the last one counts.
        if many.get(number) == size:
            del many[number]
            order.append(number)
            for other in around[number]:
                if other in many:
                    many[other] -= 1
                    heappush(queue, (many[other], other))
    return order[::-1]


def most_used(instructions, around):
    """The registers, those first that the instructions name most often."""
    uses = {number: 0 for number in around}
    for instruction in instructions:
        for number in reads(instruction) + writes(instruction):
            uses[number] += 1
    return [number for _, number in sorted([(-uses[number], number) for number in uses])]


def places_in(order, around, partners, free):
    """A dict from the registers, in an order, to the first free place for each, or None if there is none for one.

    A place that saves a copy comes first, but no slot is taken where a register is free.
    """
    found = {}
    for number in order:
        taken = {found[other]: True for other in around[number] if other in found}
        left = [place for place in free if place not in taken]
        if not left:
            return None
        wanted = [found[other] for other in partners.get(number, []) if other in found]
        saving = [place for place in left if place in wanted and is_slot(place) == is_slot(left[0])]
        found[number] = (saving + left)[0]
    return found


def is_slot(place):
    """Whether a place is a slot."""
    return place >= FIRST_PLACE_SLOT


def places_for(instructions, registers):
    """A dict from the registers of a list to their places; raise SpillError if there are not enough.

    If any of the places are slots, the registers of the helpers are free. A register that interferes with fewer than
    48 others finds a slot in any order.
    """
    around = neighbours(instructions)
    partners = partners_of(instructions)
    found = places_in(few_ahead(around), around, partners, list(range(registers)))
    if found is None:
        free = list(range(HELPERS, registers)) + list(range(FIRST_PLACE_SLOT, SLOTS))
        found = places_in(most_used(instructions, around), around, partners, free)
    if found is None:
        raise SpillError("there are not enough places for the registers")
    return found


def in_places(instructions, registers):
    """The list that does with places for a number of registers what a source does; raise SpillError."""
    places = places_for(instructions, registers)
    found = []
    for instruction in instructions:
        found.extend(placed(instruction, places))
    return found


def placed(instruction, places):
    """The instructions that do with places what an instruction does with registers."""
    kind = instruction[0]
    if kind == "mov":
        return moved(places[instruction[1]], places[instruction[2]])
    core = list(instruction)
    helpers = {}
    for at in READ_AT.get(kind, ()):
        place = places[instruction[at]]
        if is_slot(place):
            helpers.setdefault(place, len(helpers))
        core[at] = helpers.get(place, place)
    behind = []
    for at in WRITTEN_AT.get(kind, ()):
        core[at] = places[instruction[at]]
        if is_slot(core[at]):
            behind.append(("st", 0, core[at]))
            core[at] = 0
    return [("ld", helpers[place], place) for place in helpers] + [tuple(core)] + behind


def moved(goal, origin):
    """The instructions that copy the value in a place to another one."""
    if goal == origin:
        return []
    if is_slot(goal):
        return [("ld", 0, origin), ("st", 0, goal)] if is_slot(origin) else [("st", origin, goal)]
    return [("ld", goal, origin)] if is_slot(origin) else [("mov", goal, origin)]
