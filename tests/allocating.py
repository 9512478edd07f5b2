"""Sources and targets by chance, and slow but plain ways to tell whether a target is a right allocation."""

from lists import plain_entries, plain_live, plain_successors, some_list
from scribeself.machines import reads, writes

READ_AT = {"op": [3, 4], "st": [1], "show": [1], "jz": [1]}


def some_source(chance, many, registers, labels=(0, 7, "in", "out")):
    """A source; behind each name all registers are set."""
    found = []
    for part in some_list(chance, many, registers, labels):
        found.append(part)
        if part[0] == "label" and isinstance(part[1], str):
            found += [("li", number, chance.randrange(9)) for number in range(registers)]
    return found


def plain_interference(instructions):
    known = plain_live(instructions)
    found = set()
    for at, part in enumerate(instructions):
        for number in writes(part):
            for other in known[at + 1]:
                if other != number and part != ("mov", number, other):
                    found.add((min(number, other), max(number, other)))
    return sorted(found)


def is_copy(part):
    return part[0] == "mov" or (part[0] in ("ld", "st") and part[2] >= 16)


def cores_of(instructions):
    return [part for part in instructions if not is_copy(part)]


def copies_between(instructions):
    """For each core the list of the copies directly ahead of it, and those at the end."""
    found = [[]]
    for part in instructions:
        if is_copy(part):
            found[-1].append(part)
        else:
            found.append([])
    return found


def shape(core):
    """A core as a list with "r" in place of the registers."""
    told = list(core)
    for at in {"li": [1], "op": [2, 3, 4], "ld": [1], "st": [1], "show": [1], "jz": [1]}.get(core[0], []):
        told[at] = "r"
    return told


def plain_shape(source, target):
    one, two = cores_of(source), cores_of(target)
    for at in range(max(len(one), len(two))):
        if at >= min(len(one), len(two)) or shape(one[at]) != shape(two[at]):
            return at
    return None


class Agreement:
    """The pairs of registers and places that agree, told word by word of point 25.5."""

    def __init__(self, source, target):
        self.source, self.target = cores_of(source), cores_of(target)
        self.moves, self.copies = copies_between(source), copies_between(target)
        self.registers = sorted({number for part in source for number in reads(part) + writes(part)})
        self.places = list(range(8)) + list(range(16, 64))
        self.every = frozenset((number, place) for number in self.registers for place in self.places)

    def passed(self, agreeing, at):
        """What agrees ahead of a core, when the copies ahead of it are passed."""
        for _, d, s in self.moves[at]:
            agreeing = {(number, place) for number, place in agreeing if number != d} | {(d, place) for number, place in agreeing if number == s}
        for kind, one, other in self.copies[at]:
            p, q = (other, one) if kind == "st" else (one, other)
            agreeing = {(number, place) for number, place in agreeing if place != p} | {(number, p) for number, place in agreeing if place == q}
        return frozenset(agreeing)

    def after(self, agreeing, at):
        """What agrees behind a core."""
        goals, places = writes(self.source[at]), writes(self.target[at])
        if not goals:
            return agreeing
        return frozenset({(number, place) for number, place in agreeing if number != goals[0] and place != places[0]} | {(goals[0], places[0])})

    def ways(self, agreeing, at):
        """All (next core, what agrees ahead of it) from what agrees behind a core."""
        part = self.source[at]
        found = []
        if part[0] not in ("jump", "halt"):
            found.append((at + 1, self.passed(agreeing, at + 1)))
        if part[0] in ("jump", "jz") and ("label", part[-1]) in self.source:
            found.append((self.source.index(("label", part[-1])), agreeing))
        return [way for way in found if way[0] < len(self.source)]

    def is_name(self, at):
        return self.source[at][0] == "label" and isinstance(self.source[at][1], str)

    def needed(self, at):
        """The pairs that must agree at a core."""
        return [(self.source[at][k], self.target[at][k]) for k in READ_AT.get(self.source[at][0], [])]

    def is_right(self):
        """Go along all paths at once: what agrees at a core agrees on all paths to it."""
        known = {}
        todo = []
        if self.source and not self.is_name(0):
            todo.append((0, self.every))
        for at in range(len(self.source)):
            if self.is_name(at):
                todo += self.ways(frozenset(), at)
        while todo:
            at, agreeing = todo.pop()
            met = known.get(at, self.every) & agreeing
            if at not in known or met != known[at]:
                known[at] = met
                todo += self.ways(self.after(met, at), at)
        return all(pair in known[at] for at in known for pair in self.needed(at))

    def is_witness(self, told):
        """Whether a witness has the form of point 25.7, and a way along its path on which the pair does not agree."""
        word, nodes, number, place = told
        after = plain_successors(self.source)
        reached = plain_entries(self.source)
        while not all(after[at] <= reached for at in reached):
            reached |= {other for at in reached for other in after[at]}
        if word != "path" or len(nodes) < 2 or not all(at in reached and at < len(self.source) for at in nodes):
            return False
        if (number, place) not in self.needed(nodes[-1]):
            return False
        known = [frozenset() if self.is_name(nodes[0]) else self.after(self.every, nodes[0])]
        for k, at in enumerate(nodes[1:]):
            known = {agreeing for before in known for goal, agreeing in self.ways(before, nodes[k]) if goal == at}
            if k + 2 < len(nodes):
                known = {self.after(agreeing, at) for agreeing in known}
        return any((number, place) not in agreeing for agreeing in known)
