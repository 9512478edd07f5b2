"""Machines, and lists of instructions: their check, what they read and write, their lines, and their runs."""

from scribeself.errors import FuelError, MachineError, TrapError
from scribeself.grammars import is_name
from scribeself.meaning import is_integer_from, is_number, operate

FEWEST_REGISTERS = 2
MOST_REGISTERS = 8
LONGEST_LATENCY = 9
VIRTUAL_REGISTERS = 10000
SLOTS = 64
LAST_LABEL = 1048575
LONGEST_NUMBER = 10
DIGITS = "0123456789"
OPERATIONS = ("add", "sub", "mul", "less", "same")

# The kinds of the parts of each instruction. The first register of "li", "mov", "op" and "ld" is written.
SHAPES = {
    "li": ("reg", "number"),
    "mov": ("reg", "reg"),
    "op": ("operation", "reg", "reg", "reg"),
    "ld": ("reg", "slot"),
    "st": ("reg", "slot"),
    "show": ("reg",),
    "jz": ("reg", "label"),
    "jump": ("label",),
    "label": ("label",),
    "halt": (),
}

WRITERS = ("li", "mov", "op", "ld")


def is_machine(value):
    """Whether a value of any kind is a machine."""
    if not isinstance(value, tuple) or len(value) != 5 or value[0] != "machine":
        return False
    if not is_integer_from(value[1], FEWEST_REGISTERS, MOST_REGISTERS):
        return False
    return all([is_integer_from(part, 1, LONGEST_LATENCY) for part in value[2:]])


def check_list(instructions, registers):
    """Return None, or raise MachineError for the first invalid instruction of a list of values of any kind."""
    many = VIRTUAL_REGISTERS if registers is None else registers
    shaped = [is_instruction(value, many) for value in instructions]
    placed = {value[1]: True for value, fine in zip(instructions, shaped) if fine and value[0] == "label"}
    before = {}
    for at, value in enumerate(instructions):
        if not shaped[at]:
            raise MachineError(at)
        if value[0] == "label":
            if value[1] in before:
                raise MachineError(at)
            before[value[1]] = True
        elif isinstance(target(value), int) and target(value) not in placed:
            raise MachineError(at)


def is_instruction(value, registers):
    """Whether a value of any kind is an instruction with some number of registers, whatever its list has."""
    if not isinstance(value, tuple) or len(value) == 0 or not isinstance(value[0], str):
        return False
    kinds = SHAPES.get(value[0])
    if kinds is None or len(kinds) != len(value) - 1:
        return False
    return all([is_part(kind, part, registers) for kind, part in zip(kinds, value[1:])])


def is_part(kind, part, registers):
    """Whether a value of any kind is a part of an instruction of the kind."""
    if kind == "reg":
        return is_integer_from(part, 0, registers - 1)
    if kind == "number":
        return is_number(part)
    if kind == "slot":
        return is_integer_from(part, 0, SLOTS - 1)
    if kind == "operation":
        return isinstance(part, str) and part in OPERATIONS
    return is_name(part) if isinstance(part, str) else is_integer_from(part, 0, LAST_LABEL)


def reads(instruction):
    """The ascending list of the registers that an instruction reads."""
    kind = instruction[0]
    if kind == "op":
        return sorted({instruction[3], instruction[4]})
    if kind == "mov":
        return [instruction[2]]
    return [instruction[1]] if kind in ("st", "show", "jz") else []


def writes(instruction):
    """The list of the register that an instruction writes, if there is one."""
    if instruction[0] not in WRITERS:
        return []
    return [instruction[2] if instruction[0] == "op" else instruction[1]]


def slot_read(instruction):
    """The slot that an instruction reads, or None."""
    return instruction[2] if instruction[0] == "ld" else None


def slot_written(instruction):
    """The slot that an instruction writes, or None."""
    return instruction[2] if instruction[0] == "st" else None


def target(instruction):
    """The label to which an instruction may jump, or None."""
    return instruction[-1] if instruction[0] in ("jump", "jz") else None


def latency(machine, instruction):
    """The latency of an instruction on a machine."""
    _, _, load, multiply, other = machine
    if instruction[0] == "ld":
        return load
    return multiply if instruction[:2] == ("op", "mul") else other


def format_instruction(instruction):
    """The line of an instruction."""
    kind = instruction[0]
    words = [word_of(part, instruction[k + 1]) for k, part in enumerate(SHAPES[kind])]
    if kind == "label":
        return words[0] + ":"
    return " ".join(words if kind == "op" else [kind] + words)


def word_of(kind, part):
    """The word of a part of an instruction."""
    if kind == "reg":
        return "r" + str(part)
    if kind == "slot":
        return "[" + str(part) + "]"
    return "L" + str(part) if kind == "label" and isinstance(part, int) else str(part)


def format_list(instructions):
    """The text of a list of instructions."""
    return "".join([format_instruction(instruction) + "\n" for instruction in instructions])


def parse_instruction(line):
    """The instruction that has a line; raise MachineError if there is none."""
    instruction = instruction_in(line)
    if instruction is None:
        raise MachineError(0)
    return instruction


def parse_list(text):
    """The list that has a text; raise MachineError for its first line that is wrong or not ended."""
    lines = text.split("\n")
    found = [instruction_in(line) for line in lines[:-1]]
    if None in found:
        raise MachineError(found.index(None))
    if lines[-1] != "":
        raise MachineError(len(found))
    return found


def instruction_in(line):
    """The instruction that has a line, or None."""
    words = line.split(" ")
    if words[0] in OPERATIONS:
        words = ["op"] + words
    elif len(words) == 1 and line.endswith(":"):
        words = ["label", line[:-1]]
    elif words[0] in ("op", "label"):
        return None
    kinds = SHAPES.get(words[0])
    if kinds is None or len(kinds) != len(words) - 1:
        return None
    found = [words[0]] + [part_in(kind, word) for kind, word in zip(kinds, words[1:])]
    return tuple(found) if is_instruction(tuple(found), VIRTUAL_REGISTERS) else None


def part_in(kind, word):
    """The part of an instruction that has a word, or None; it may be out of its range."""
    if kind == "reg":
        return natural(word[1:]) if word.startswith("r") else None
    if kind == "slot":
        return natural(word[1:-1]) if word.startswith("[") and word.endswith("]") else None
    if kind == "number" and word.startswith("-"):
        size = natural(word[1:])
        return None if size is None or size == 0 else -size
    if kind == "number":
        return natural(word)
    return natural(word[1:]) if kind == "label" and word.startswith("L") else word


def natural(digits):
    """The integer that is written with some digits and no leading zero, or None."""
    if not 1 <= len(digits) <= LONGEST_NUMBER or not all([char in DIGITS for char in digits]):
        return None
    return None if digits[0] == "0" and len(digits) > 1 else int(digits)


def places_of(instructions):
    """A dict from the labels that a list places to their indexes."""
    return {part[1]: at for at, part in enumerate(instructions) if part[0] == "label"}


def play(instructions, fuel):
    """What a list shows, its slots at the end, and the fuel that it uses; raise FuelError or TrapError."""
    ending, shown, slots, used, at = played(instructions, fuel)
    if ending == "fuel":
        raise FuelError("the list needs more fuel")
    if ending == "trap":
        raise TrapError(at)
    return shown, slots, used


def observe_list(instructions, fuel):
    """How a list ends within some fuel, and what it shows within it."""
    ending, shown, _, _, _ = played(instructions, fuel)
    return ending, shown


def played(instructions, fuel):
    """How a list ends, what it shows, its slots, the fuel that it has used, and the index at which it has ended."""
    places = places_of(instructions)
    numbers = {}
    slots = [0] * SLOTS
    shown = []
    at = 0
    used = 0
    while True:
        instruction = instructions[at] if at < len(instructions) else ("halt",)
        kind = instruction[0]
        if kind == "label":
            at += 1
            continue
        if used == fuel:
            return "fuel", shown, slots, used, at
        used += 1
        if kind == "halt":
            return "halt", shown, slots, used, at
        if kind == "jump" or (kind == "jz" and numbers.get(instruction[1], 0) == 0):
            if instruction[-1] not in places:
                return "trap", shown, slots, used, at
            at = places[instruction[-1]]
        else:
            perform(instruction, numbers, slots, shown)
            at += 1


def perform(instruction, numbers, slots, shown):
    """Do what an instruction does that does not jump, with the numbers in registers and slots."""
    kind = instruction[0]
    if kind == "li":
        numbers[instruction[1]] = instruction[2]
    elif kind == "mov":
        numbers[instruction[1]] = numbers.get(instruction[2], 0)
    elif kind == "op":
        _, name, goal, first, second = instruction
        numbers[goal] = operate(name, numbers.get(first, 0), numbers.get(second, 0))
    elif kind == "ld":
        numbers[instruction[1]] = slots[instruction[2]]
    elif kind == "st":
        slots[instruction[2]] = numbers.get(instruction[1], 0)
    elif kind == "show":
        shown.append(numbers.get(instruction[1], 0))
