"""Short ways to write rules, symbols and nodes."""


def rule(left, label, *symbols):
    return ("rule", left, label, list(symbols))


def nt(name):
    return ("nt", name)


def lit(text):
    return ("lit", text)


def node(index, *kids):
    return ("node", index, list(kids))
