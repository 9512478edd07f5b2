"""Words: how instructions are written as integers, and objects, which are made of lists of instructions."""

from scribeself.errors import TrapError
from scribeself.machines import OPERATIONS, SLOTS, check_list, target

FIRST_FIELD = 16777216
SECOND_FIELD = 1048576
FIRST_OPERAND = 65536
SECOND_OPERAND = 4096
MANY_REGISTERS = 16
MANY_WORDS = 4294967296
SHORT_FROM = -524288
SHORT_TO = 524287

# The first fields of the kinds of instructions and of the operations.
SHORT_NUMBER = 1
LONG_NUMBER = 2
COPY = 3
FIRST_OPERATION = 4
LOAD = 9
STORE = 10
SHOW = 11
JUMP_IF_ZERO = 12
JUMP = 13
HALT = 14


def is_short(number):
    """Whether a number fits into the third field of a word."""
    return SHORT_FROM <= number <= SHORT_TO


def size(instruction):
    """The number of words of an instruction."""
    if instruction[0] == "label":
        return 0
    return 2 if instruction[0] == "li" and not is_short(instruction[2]) else 1


def encode(instruction, address):
    """The words of an instruction, in which the address is that of the label of a jump."""
    kind = instruction[0]
    if kind == "label":
        return []
    if kind == "li":
        _, number, n = instruction
        if is_short(n):
            return [word(SHORT_NUMBER, number, n % SECOND_FIELD)]
        return [word(LONG_NUMBER, number, 0), n % MANY_WORDS]
    if kind == "mov":
        return [word(COPY, instruction[1], instruction[2] * FIRST_OPERAND)]
    if kind == "op":
        _, name, goal, one, other = instruction
        return [word(FIRST_OPERATION + OPERATIONS.index(name), goal, one * FIRST_OPERAND + other * SECOND_OPERAND)]
    if kind == "ld":
        return [word(LOAD, instruction[1], instruction[2])]
    if kind == "st":
        return [word(STORE, instruction[1], instruction[2])]
    if kind == "show":
        return [word(SHOW, instruction[1], 0)]
    if kind == "jz":
        return [word(JUMP_IF_ZERO, instruction[1], address)]
    return [word(JUMP, 0, address) if kind == "jump" else word(HALT, 0, 0)]


def word(first, second, third):
    """The word with three fields."""
    return first * FIRST_FIELD + second * SECOND_FIELD + third


def decode(words, at):
    """The instruction at an address, and the address after its last word; raise TrapError if there is none."""
    found = meant(words, at) if 0 <= at < len(words) else None
    # What is meant by the fields is not there if they hold more than it needs, or if there is a shorter way.
    if found is None or words[at:at + size(found)] != encode(found, words[at] % SECOND_FIELD):
        raise TrapError(at)
    return found, at + size(found)


def meant(words, at):
    """The instruction that the fields of a word mean as far as it needs them, or None if they mean none."""
    first = words[at] // FIRST_FIELD
    second = words[at] // SECOND_FIELD % MANY_REGISTERS
    third = words[at] % SECOND_FIELD
    one = third // FIRST_OPERAND
    if first == SHORT_NUMBER:
        return ("li", second, signed(third, SECOND_FIELD))
    if first == LONG_NUMBER and at + 1 < len(words):
        return ("li", second, signed(words[at + 1], MANY_WORDS))
    if first == COPY:
        return ("mov", second, one)
    if FIRST_OPERATION <= first < FIRST_OPERATION + len(OPERATIONS):
        other = third // SECOND_OPERAND % MANY_REGISTERS
        return ("op", OPERATIONS[first - FIRST_OPERATION], second, one, other)
    if first in (LOAD, STORE) and third < SLOTS:
        return ("ld" if first == LOAD else "st", second, third)
    if first == SHOW:
        return ("show", second)
    if first == JUMP_IF_ZERO:
        return ("jz", second, third)
    if first == JUMP:
        return ("jump", third)
    return ("halt",) if first == HALT else None


def signed(field, many):
    """The integer that a field stands for which can have a number of values, half of them for those below 0."""
    return field - many if field >= many // 2 else field


def offsets(instructions):
    """The list of the addresses of all instructions, and of the end."""
    found = [0]
    for instruction in instructions:
        found.append(found[-1] + size(instruction))
    return found


def assemble(instructions):
    """The object of a list; raise MachineError for the first instruction that is invalid."""
    check_list(instructions, MANY_REGISTERS)
    known = offsets(instructions)
    places = {part[1]: known[at] for at, part in enumerate(instructions) if part[0] == "label"}
    words = []
    relocations = []
    for instruction in instructions:
        label = target(instruction)
        if label is not None:
            relocations.append((len(words), "" if label in places else label))
        words.extend(encode(instruction, places.get(label, 0)))
    symbols = sorted([(label, places[label]) for label in places if isinstance(label, str)])
    return ("object", words + encode(("halt",), 0), symbols, relocations)


def disassemble(words):
    """The list of instructions of some words; raise TrapError if there is none."""
    found = []
    at = 0
    while at < len(words):
        instruction, after = decode(words, at)
        found.append((at, instruction))
        at = after
    known = {at: True for at, _ in found}
    jumps = [(at, target(instruction)) for at, instruction in found if target(instruction) is not None]
    for at, label in jumps:
        if label not in known:
            raise TrapError(at)
    if not found or found[-1][1][0] not in ("halt", "jump"):
        raise TrapError(len(words))
    labels = {label: True for _, label in jumps}
    told = []
    for at, instruction in found:
        if at in labels:
            told.append(("label", at))
        told.append(instruction)
    return told
