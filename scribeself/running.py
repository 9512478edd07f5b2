"""Running an image on a machine."""

from scribeself.codes import decode
from scribeself.errors import FuelError, TrapError
from scribeself.machines import SLOTS, latency, reads, writes
from scribeself.meaning import operate

STOPPED = -1


def start(machine):
    """The state at the beginning."""
    zeros = tuple([0] * machine[1])
    return ("state", 0, zeros, tuple([0] * SLOTS), zeros, 0, ())


def advance(machine, image, state):
    """The state after one more instruction; raise TrapError if the machine traps."""
    run = Run(machine, image, state)
    run.step()
    return run.state()


def execute(machine, image, fuel):
    """What an image shows, its slots at the end, its cycles and its steps; raise FuelError or TrapError."""
    run = Run(machine, image, start(machine))
    steps = run.steps(fuel)
    if run.address != STOPPED:
        raise FuelError("the image takes more steps")
    return run.shown, run.slots, run.cycle, steps


def observe_image(machine, image, fuel):
    """How an image ends within some fuel, and what it shows within it."""
    run = Run(machine, image, start(machine))
    try:
        run.steps(fuel)
    except TrapError:
        return "trap", run.shown
    return "halt" if run.address == STOPPED else "fuel", run.shown


class Run:
    """A state that changes step by step. `known` has the instructions that were decoded, by their addresses."""

    def __init__(self, machine, image, state):
        _, self.address, registers, slots, ready, self.cycle, shown = state
        self.machine = machine
        self.image = image
        self.numbers = list(registers)
        self.slots = list(slots)
        self.ready = list(ready)
        self.shown = list(shown)
        self.known = {}

    def state(self):
        """The state as a tuple."""
        return ("state", self.address, tuple(self.numbers), tuple(self.slots), tuple(self.ready), self.cycle,
                tuple(self.shown))

    def steps(self, fuel):
        """Take as many steps as there are, but at most some; return their number."""
        taken = 0
        while taken < fuel and self.address != STOPPED:
            self.step()
            taken += 1
        return taken

    def fetched(self):
        """The instruction at the address, the address after it, what it reads and writes, and its latency."""
        if self.address not in self.known:
            instruction, after = decode(self.image, self.address)
            read, written = reads(instruction), writes(instruction)
            if not all([number < len(self.numbers) for number in read + written]):
                raise TrapError(self.address)
            self.known[self.address] = (instruction, after, read, written, latency(self.machine, instruction))
        return self.known[self.address]

    def step(self):
        """Perform the instruction at the address, if the machine has not stopped."""
        if self.address == STOPPED:
            return
        instruction, after, read, written, late = self.fetched()
        begin = max([self.cycle] + [self.ready[number] for number in read])
        self.address = self.next_address(instruction, after)
        self.perform(instruction)
        for number in written:
            self.ready[number] = begin + late
        self.cycle = begin + 1

    def next_address(self, instruction, after):
        """The address that follows an instruction with an address after its last word."""
        kind = instruction[0]
        if kind == "halt":
            return STOPPED
        if kind == "jump" or (kind == "jz" and self.numbers[instruction[1]] == 0):
            return instruction[-1]
        return after

    def perform(self, instruction):
        """Do what an instruction does to registers and slots, and what it shows."""
        kind = instruction[0]
        if kind == "li":
            self.numbers[instruction[1]] = instruction[2]
        elif kind == "mov":
            self.numbers[instruction[1]] = self.numbers[instruction[2]]
        elif kind == "op":
            _, name, goal, one, other = instruction
            self.numbers[goal] = operate(name, self.numbers[one], self.numbers[other])
        elif kind == "ld":
            self.numbers[instruction[1]] = self.slots[instruction[2]]
        elif kind == "st":
            self.slots[instruction[2]] = self.numbers[instruction[1]]
        elif kind == "show":
            self.shown.append(self.numbers[instruction[1]])
