"""Expressions and statements of the middle language by chance, and slow but plain ways to find what they mean."""

NAMES = ["add", "sub", "mul", "less", "same"]
EDGES = [0, 1, -1, 2, 7, 65536, -65536, 2147483647, -2147483648]


def some_expression(chance, deep, slots=4):
    choice = chance.random()
    if deep and choice < 0.6:
        return (chance.choice(NAMES), some_expression(chance, deep - 1, slots), some_expression(chance, deep - 1, slots))
    return ("num", chance.choice(EDGES)) if choice < 0.8 else ("var", chance.randrange(slots))


def some_statement(chance, deep):
    choice = chance.random()
    if not deep or choice < 0.3:
        return chance.choice([("skip",), ("show", some_expression(chance, 2)), ("set", chance.randrange(4), some_expression(chance, 2))])
    if choice < 0.6:
        return ("seq", some_statement(chance, deep - 1), some_statement(chance, deep - 1))
    if choice < 0.8:
        return ("when", some_expression(chance, 2), some_statement(chance, deep - 1), some_statement(chance, deep - 1))
    # Most loops end: their test becomes 0 in the end.
    slot = chance.randrange(4)
    test = chance.choice([("var", slot), ("less", ("var", slot), ("num", 3)), ("less", ("num", -5), ("var", slot))])
    change = ("set", slot, chance.choice([("add", ("var", slot), ("num", 1)), ("sub", ("var", slot), ("num", 1)), ("num", 0)]))
    return ("loop", test, ("seq", some_statement(chance, deep - 1), change))


def plain_value(expression, store):
    name = expression[0]
    if name == "num":
        return expression[1]
    if name == "var":
        return store[expression[1]]
    a, b = plain_value(expression[1], store), plain_value(expression[2], store)
    told = {"add": a + b, "sub": a - b, "mul": a * b, "less": int(a < b), "same": int(a == b)}[name] % 2 ** 32
    return told - 2 ** 32 if told >= 2 ** 31 else told


class OutOfFuel(Exception):
    pass


class PlainRun:
    """A run by the nesting of the statements; each statement that begins and each test costs one step."""

    def __init__(self, statement, fuel):
        self.fuel, self.steps, self.store, self.shown = fuel, 0, [0] * 16, []
        try:
            self.do(statement)
            self.ended = True
        except OutOfFuel:
            self.ended = False

    def pay(self):
        if self.steps == self.fuel:
            raise OutOfFuel
        self.steps += 1

    def do(self, statement):
        self.pay()
        name = statement[0]
        if name == "set":
            self.store[statement[1]] = plain_value(statement[2], self.store)
        elif name == "show":
            self.shown.append(plain_value(statement[1], self.store))
        elif name == "seq":
            self.do(statement[1])
            self.do(statement[2])
        elif name == "when":
            self.do(statement[2] if plain_value(statement[1], self.store) else statement[3])
        elif name == "loop":
            self.pay()
            while plain_value(statement[1], self.store):
                self.do(statement[2])
                self.pay()
