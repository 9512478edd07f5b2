"""Lists of instructions by chance, and slow but plain ways to find what they do."""

import copy

from middle import EDGES, plain_value
from scribeself.machines import reads, writes

OPERATIONS = ["add", "sub", "mul", "less", "same"]


def some_list(chance, many, registers=3, labels=(0, 7, "in", "out")):
    """A valid list; some of the names to which it jumps are not placed."""
    placed = [label for label in labels if chance.random() < 0.8]
    names = [label for label in labels if label in placed or isinstance(label, str)]
    found = [("label", label) for label in placed]
    while len(found) < many:
        d, s, t = [chance.randrange(registers) for _ in range(3)]
        goal = [("jump", chance.choice(names)), ("jz", s, chance.choice(names))] if names else [("halt",)]
        found.append(chance.choice([("li", d, chance.choice(EDGES)), ("mov", d, s), ("op", chance.choice(OPERATIONS), d, s, t), ("ld", d, chance.randrange(4)),
                                    ("st", s, chance.randrange(4)), ("show", s), ("halt",), goal[-1], chance.choice(goal)]))
    chance.shuffle(found)
    return found


def some_straight(chance, many, registers):
    """Straight instructions only."""
    found = []
    for _ in range(many):
        d, s, t = [chance.randrange(registers) for _ in range(3)]
        found.append(chance.choice([("li", d, chance.choice(EDGES)), ("mov", d, s), ("op", chance.choice(OPERATIONS), d, s, t), ("op", "mul", d, s, t),
                                    ("ld", d, chance.randrange(4)), ("st", s, chance.randrange(4)), ("show", s)]))
    return found


class PlainPlay:
    """A run of a list, told by the words of the point: how it ends, what it shows, its slots, its fuel, and where it ends."""

    def __init__(self, instructions, fuel):
        self.shown, self.slots, self.used, self.registers = [], [0] * 64, 0, {}
        self.at = 0
        self.ending = None
        while self.ending is None:
            self.one(instructions + [("halt",)], fuel)

    def get(self, register):
        return self.registers.get(register, 0)

    def one(self, instructions, fuel):
        instruction = instructions[self.at]
        kind, parts = instruction[0], instruction[1:]
        if kind == "label":
            self.at += 1
        elif self.used == fuel:
            self.ending = "fuel"
        else:
            self.used += 1
            if kind == "halt":
                self.ending = "halt"
            elif kind == "jump" or (kind == "jz" and self.get(parts[0]) == 0):
                if ("label", parts[-1]) in instructions:
                    self.at = instructions.index(("label", parts[-1]))
                else:
                    self.ending = "trap"
            else:
                self.at += 1
                self.do(kind, parts)

    def do(self, kind, parts):
        if kind == "li":
            self.registers[parts[0]] = parts[1]
        elif kind == "mov":
            self.registers[parts[0]] = self.get(parts[1])
        elif kind == "op":
            self.registers[parts[1]] = plain_value((parts[0], ("var", 0), ("var", 1)), [self.get(parts[2]), self.get(parts[3])])
        elif kind == "ld":
            self.registers[parts[0]] = self.slots[parts[1]]
        elif kind == "st":
            self.slots[parts[1]] = self.get(parts[0])
        elif kind == "show":
            self.shown.append(self.get(parts[0]))


def plain_successors(instructions):
    end = len(instructions)
    found = []
    for at, instruction in enumerate(instructions):
        goal = ("label", instruction[-1])
        goal = instructions.index(goal) if goal in instructions else end
        found.append({"halt": {end}, "jump": {goal}, "jz": {goal, at + 1}}.get(instruction[0], {at + 1}))
    return found + [set()]


def plain_entries(instructions):
    return {0} | {at for at, part in enumerate(instructions) if part[0] == "label" and isinstance(part[1], str)}


def plain_live(instructions):
    """The live registers by equations that are filled in until nothing changes."""
    after = plain_successors(instructions)
    found = [set() for _ in after]
    while True:
        before = copy.deepcopy(found)
        for at, instruction in reversed(list(enumerate(instructions))):
            behind = {number for other in after[at] for number in found[other]}
            found[at] = (behind - set(writes(instruction))) | set(reads(instruction))
        if found == before:
            return found
