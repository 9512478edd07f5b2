"""Values, the functions on them, and expressions."""

from scribeself.errors import ValueFault

DIGITS = "0123456789"


def wrapped(n):
    """An integer, wrapped to signed 32 bits."""
    return (n + 2147483648) % 4294967296 - 2147483648


def kind_of(value):
    """The kind of a value."""
    if isinstance(value, int):
        return "int"
    if isinstance(value, str):
        return "str"
    return "list" if isinstance(value, list) else "term"


def added(first, second):
    """The wrapped sum."""
    return wrapped(first + second)


def less_by(first, second):
    """The wrapped difference."""
    return wrapped(first - second)


def times(first, second):
    """The wrapped product."""
    return wrapped(first * second)


def is_less(first, second):
    """1 if the first integer or string is less than the second one, otherwise 0."""
    return 1 if first < second else 0


def is_same(first, second):
    """1 if two values are equal, otherwise 0."""
    return 1 if first == second else 0


def followed(first, second):
    """The first string or list followed by the second one."""
    return first + second


def size_of(whole):
    """The length of a string or list."""
    return len(whole)


def part_at(whole, index):
    """The character or element with an index."""
    if not 0 <= index < len(whole):
        raise ValueFault("there is no part with this index")
    return whole[index]


def without_first(whole):
    """A string or list without its first part."""
    if len(whole) == 0:
        raise ValueFault("what is empty has no tail")
    return whole[1:]


def number_in(text):
    """The integer of a string of digits."""
    if not 1 <= len(text) <= 9 or not all([char in DIGITS for char in text]):
        raise ValueFault("the string is no number")
    return int(text)


def digits_of(number):
    """The decimal form of an integer."""
    return str(number)


# The kinds of values that each function takes.
KINDS = {
    "add": ("int int",),
    "sub": ("int int",),
    "mul": ("int int",),
    "less": ("int int", "str str"),
    "cat": ("str str",),
    "join": ("list list",),
    "len": ("str", "list"),
    "at": ("str int", "list int"),
    "tail": ("str", "list"),
    "number": ("str",),
    "text": ("int",),
}

ACTIONS = {
    "add": added,
    "sub": less_by,
    "mul": times,
    "less": is_less,
    "cat": followed,
    "join": followed,
    "len": size_of,
    "at": part_at,
    "tail": without_first,
    "number": number_in,
    "text": digits_of,
}


def call(name, args):
    """The value of a function for a list of values; raise ValueFault if there is none."""
    if name == "list":
        return list(args)
    if name.startswith("make "):
        return ("term", name[len("make "):], list(args))
    if name == "same" and len(args) == 2:
        return is_same(args[0], args[1])
    if " ".join([kind_of(value) for value in args]) not in KINDS.get(name, ()):
        raise ValueFault("there is no such function for these values")
    action = ACTIONS[name]
    return action(*args)


def parts_of(expression):
    """The expression and all expressions in it, each before those in it, from left to right."""
    found = []
    todo = [expression]
    while todo:
        part = todo.pop()
        found.append(part)
        if part[0] == "if":
            todo.extend([part[3], part[2], part[1]])
        elif part[0] == "call":
            todo.extend(part[2][::-1])
    return found


def references(expression):
    """The references in an expression, each once, in the order of their first places."""
    return list({part: True for part in parts_of(expression) if part[0] in ("own", "kid")})


def reads_texts(expression):
    """Whether the text of the node or of a kid stands in an expression."""
    return any([part[0] in ("text", "kidtext") for part in parts_of(expression)])


def value_of(expression, known, own, kids):
    """The value of an expression; raise ValueFault if there is none.

    What is left to do is kept in a list, as expressions may be deep: beside expressions, calls and choices that wait
    for values. The values that are ready wait in another list.
    """
    todo = [expression]
    ready = []
    while todo:
        part = todo.pop()
        kind = part[0]
        if kind == "call":
            todo.append(("apply", part[1], len(part[2])))
            todo.extend(part[2][::-1])
        elif kind == "apply":
            first = len(ready) - part[2]
            args = ready[first:]
            del ready[first:]
            ready.append(call(part[1], args))
        elif kind == "if":
            todo.extend([("choose", part[2], part[3]), part[1]])
        elif kind == "choose":
            todo.append(chosen_part(ready.pop(), part[1], part[2]))
        else:
            ready.append(leaf_value(part, known, own, kids))
    return ready[0]


def chosen_part(value, first, second):
    """The part of an "if" that is evaluated, by the value of its test."""
    if not isinstance(value, int):
        raise ValueFault("a test has a value that is no integer")
    return second if value == 0 else first


def leaf_value(part, known, own, kids):
    """The value of an expression that has no expressions in it."""
    kind = part[0]
    if kind == "val":
        return part[1]
    if kind == "text":
        return own
    return kids[part[1]] if kind == "kidtext" else known[part]
