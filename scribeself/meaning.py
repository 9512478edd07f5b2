"""The middle language: its expressions and statements, and what they mean, step by step."""

from scribeself.errors import FuelError
from scribeself.values import wrapped

LEAST = -2147483648
GREATEST = 2147483647
SLOTS = 16
DEEPEST = 100

# The kinds of the parts of each expression and statement.
EXPRESSIONS = {
    "num": ("number",),
    "var": ("slot",),
    "add": ("expression", "expression"),
    "sub": ("expression", "expression"),
    "mul": ("expression", "expression"),
    "less": ("expression", "expression"),
    "same": ("expression", "expression"),
}

STATEMENTS = {
    "set": ("slot", "expression"),
    "show": ("expression",),
    "skip": (),
    "seq": ("statement", "statement"),
    "when": ("expression", "statement", "statement"),
    "loop": ("expression", "statement"),
}


def wrap(number):
    """The wrapped integer."""
    return wrapped(number)


def operate(name, a, b):
    """The value of an operation on two numbers."""
    if name == "add":
        return wrapped(a + b)
    if name == "sub":
        return wrapped(a - b)
    if name == "mul":
        return wrapped(a * b)
    if name == "less":
        return 1 if a < b else 0
    return 1 if a == b else 0


def is_integer_from(value, least, greatest):
    """Whether a value of any kind is an integer in a range, and no bool."""
    return isinstance(value, int) and not isinstance(value, bool) and least <= value <= greatest


def is_number(value):
    """Whether a value of any kind is a number of the middle language."""
    return is_integer_from(value, LEAST, GREATEST)


def is_expression(value):
    """Whether a value of any kind is an expression."""
    return is_of_kind("expression", value)


def is_statement(value):
    """Whether a value of any kind is a statement."""
    return is_of_kind("statement", value)


def is_of_kind(kind, value):
    """Whether a value of any kind is an expression or a statement, nested no deeper than these are."""
    todo = [(kind, value, 1)]
    while todo:
        kind, part, depth = todo.pop()
        if kind == "number":
            fine = is_number(part)
        elif kind == "slot":
            fine = is_integer_from(part, 0, SLOTS - 1)
        else:
            kinds = kinds_below(kind, part)
            fine = kinds is not None and depth <= DEEPEST
            if fine:
                todo.extend([(inner, part[k + 1], depth + 1) for k, inner in enumerate(kinds)])
        if not fine:
            return False
    return True


def kinds_below(kind, value):
    """The kinds of the parts that an expression or a statement must have, or None if a value has no such shape."""
    if not isinstance(value, tuple) or len(value) == 0 or not isinstance(value[0], str):
        return None
    kinds = EXPRESSIONS.get(value[0]) if kind == "expression" else STATEMENTS.get(value[0])
    return kinds if kinds is not None and len(kinds) == len(value) - 1 else None


def evaluate(expression, store):
    """The value of an expression in a store."""
    name = expression[0]
    if name == "num":
        return expression[1]
    if name == "var":
        return store[expression[1]]
    return operate(name, evaluate(expression[1], store), evaluate(expression[2], store))


def begin(statement):
    """The configuration at the beginning."""
    return ("configuration", (statement,), tuple([0] * SLOTS), ())


def step(configuration):
    """The configuration after one step."""
    _, todo, store, shown = configuration
    if not todo:
        return configuration
    rest = list(todo[::-1])
    slots = list(store)
    more = list(shown)
    act(rest, slots, more)
    return ("configuration", tuple(rest[::-1]), tuple(slots), tuple(more))


def act(todo, store, shown):
    """Do one step in lists; the first item of `todo` is the last one of its list."""
    item = todo.pop()
    kind = item[0]
    if kind == "set":
        store[item[1]] = evaluate(item[2], store)
    elif kind == "show":
        shown.append(evaluate(item[1], store))
    elif kind == "seq":
        todo.extend([item[2], item[1]])
    elif kind == "when":
        todo.append(item[3] if evaluate(item[1], store) == 0 else item[2])
    elif kind == "loop":
        todo.append(("test", item[1], item[2]))
    elif kind == "test" and evaluate(item[1], store) != 0:
        todo.extend([item, item[2]])


def run(statement, fuel):
    """What a statement shows, its slots at the end, and its steps; raise FuelError if these are more than the fuel."""
    ended, shown, store, steps = ran(statement, fuel)
    if not ended:
        raise FuelError("the statement takes too many steps")
    return shown, store, steps


def observe(statement, fuel):
    """Whether a statement ends within some steps, and what it shows within them."""
    ended, shown, _, _ = ran(statement, fuel)
    return ended, shown


def ran(statement, fuel):
    """Whether a statement ends within some steps, what it shows, its slots, and the steps that were taken."""
    todo = [statement]
    store = [0] * SLOTS
    shown = []
    steps = 0
    while todo and steps < fuel:
        act(todo, store, shown)
        steps += 1
    return not todo, shown, store, steps
