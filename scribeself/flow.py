"""The flow through a list of instructions: its paths, and where registers are live and settings reach.

The nodes of a list of n instructions are its indexes and the end n.
"""

from scribeself.machines import places_of, reads, target, writes

AT_ENTRY = -1


def successors(instructions):
    """For each node the ascending list of its successors."""
    places = places_of(instructions)
    return [nodes_after(instructions, at, places) for at in range(len(instructions))] + [[]]


def nodes_after(instructions, at, places):
    """The ascending list of the successors of an index, by the places of the labels."""
    end = len(instructions)
    kind = instructions[at][0]
    if kind == "halt":
        return [end]
    label = target(instructions[at])
    goals = [] if label is None else [places.get(label, end)]
    return goals if kind == "jump" else sorted(set(goals + [at + 1]))


def predecessors(instructions):
    """For each node the ascending list of the nodes that it is a successor of."""
    found = [[] for _ in range(len(instructions) + 1)]
    for at, goals in enumerate(successors(instructions)):
        for goal in goals:
            found[goal].append(at)
    return found


def entries(instructions):
    """The ascending list of the entries."""
    named = [at for at, part in enumerate(instructions) if part[0] == "label" and isinstance(part[1], str)]
    return sorted(set([0] + named))


def reachable(instructions):
    """The ascending list of the reachable nodes."""
    return sorted(spread(successors(instructions), entries(instructions), {}))


def spread(after, starts, closed):
    """A dict of the nodes that paths from the starts lead to, each with the node before it on a shortest path.

    No path goes on behind a closed node.
    """
    found = {start: None for start in starts}
    queue = list(found)
    done = 0
    while done < len(queue):
        at = queue[done]
        done += 1
        if at not in closed:
            for other in after[at]:
                if other not in found:
                    found[other] = at
                    queue.append(other)
    return found


def path_to(at, found):
    """The path from a start to a node that was found from it."""
    path = []
    while at is not None:
        path.append(at)
        at = found[at]
    return path[::-1]


class Uses:
    """For each register of a list, the indexes that read it and those that write it, as dicts."""

    def __init__(self, instructions):
        self.readers = {}
        self.writers = {}
        for at, instruction in enumerate(instructions):
            for number in reads(instruction) + writes(instruction):
                self.readers.setdefault(number, {})
                self.writers.setdefault(number, {})
            for number in reads(instruction):
                self.readers[number][at] = True
            for number in writes(instruction):
                self.writers[number][at] = True

    def live_nodes(self, number, before):
        """A dict of the nodes at which a register is live, by the nodes before each."""
        writers = self.writers[number]
        found = {at: True for at in self.readers[number]}
        todo = list(found)
        while todo:
            at = todo.pop()
            for other in before[at]:
                if other not in found and other not in writers:
                    found[other] = True
                    todo.append(other)
        return found


def mentioned(instructions):
    """The ascending list of the registers that a list reads or writes."""
    return sorted(Uses(instructions).readers)


def live(instructions):
    """For each node the ascending list of the registers that are live at it."""
    uses = Uses(instructions)
    before = predecessors(instructions)
    found = [[] for _ in before]
    for number in sorted(uses.readers):
        for at in uses.live_nodes(number, before):
            found[at].append(number)
    return found


def live_path(instructions, at, number):
    """A path on which a register is live, from a node to an index that reads it, or None."""
    uses = Uses(instructions)
    readers = uses.readers.get(number, {})
    found = spread(successors(instructions), [at], uses.writers.get(number, {}))
    for node in found:
        if node in readers:
            return path_to(node, found)
    return None


def reaching(instructions):
    """For each node the ascending list of the settings that reach it."""
    uses = Uses(instructions)
    after = successors(instructions)
    starts = entries(instructions)
    found = [[] for _ in after]
    for number in sorted(uses.writers):
        writers = uses.writers[number]
        for index in [AT_ENTRY] + sorted(writers):
            setting = (number, index)
            for at in spread(after, starts if index == AT_ENTRY else after[index], writers):
                found[at].append(setting)
    return found


def reaching_path(instructions, at, number, index):
    """A path on which a setting reaches a node, or None."""
    writers = Uses(instructions).writers[number]
    after = successors(instructions)
    if index == AT_ENTRY:
        found = spread(after, entries(instructions), writers)
        return path_to(at, found) if at in found else None
    found = spread(after, after[index], writers)
    return [index] + path_to(at, found) if at in found else None


def drop_dead(instructions):
    """The list without dead instructions, which are removed until there is none."""
    uses = Uses(instructions)
    before = predecessors(instructions)
    removed = {}
    todo = list(uses.writers)
    while todo:
        number = todo.pop()
        known = uses.live_nodes(number, before)
        dead = [at for at in uses.writers[number] if at + 1 not in known]
        for at in dead:
            removed[at] = True
            del uses.writers[number][at]
            for other in reads(instructions[at]):
                del uses.readers[other][at]
                todo.append(other)
    return [part for at, part in enumerate(instructions) if at not in removed]
