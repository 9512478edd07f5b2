"""Building: from a description and a text to the tree, the values, the statement, the code and the image."""

from scribeself.codes import assemble
from scribeself.converting import from_value
from scribeself.covers import compiled
from scribeself.errors import ValueFault
from scribeself.folding import folded
from scribeself.forests import parse
from scribeself.linking import link
from scribeself.meaning import is_statement, run
from scribeself.placing import in_places
from scribeself.rewriting import normal
from scribeself.running import execute
from scribeself.scheduling import schedule
from scribeself.solving import solve


class Built:
    """What is made from a text."""

    def __init__(self, tree, known, result, statement, code, image):
        self.tree = tree
        self.known = known
        self.result = result
        self.statement = statement
        self.code = code
        self.image = image


def build(description, text):
    """What is made from a text; raise as the functions below do."""
    tree, known, result = valued(description, text)
    statement = statement_of(description, result)
    code = code_of(description, statement)
    return Built(tree, known, result, statement, code, link([assemble(code)]))


def valued(description, text):
    """The first tree of a text, the values of all its instances, and the result."""
    _, grammar, filters, attributes, _, _, _ = description
    tree = parse(grammar, filters, text)
    known = solve(grammar, attributes, tree)
    return tree, known, known[((), "out")]


def result_of(description, text):
    """The value of `out` at the root of a text; raise TreeError, or as `solve` does."""
    _, _, result = valued(description, text)
    return result


def statement_of(description, result):
    """The statement for which a result stands; raise FuelError or ValueFault."""
    statement = folded(normal(description[4], result), parts_of_value, tuple_of)
    if not is_statement(statement):
        raise ValueFault("the result does not stand for a statement")
    return statement


def parts_of_value(value):
    """The parts of a term."""
    return value[2] if isinstance(value, tuple) else []


def tuple_of(value, parts):
    """The tuple for which a term stands, by those of its parts; what is no term stays as it is."""
    return tuple([value[1]] + parts) if isinstance(value, tuple) else value


def code_of(description, statement):
    """The code of a statement for the machine of a description; raise CoverError or SpillError."""
    _, _, _, _, _, patterns, machine = description
    return schedule(machine, in_places(compiled(patterns, statement), machine[1]))


def meaning_shows(description, text, fuel):
    """What the statement of a text shows by its meaning; raise also FuelError."""
    shown, _, _ = run(statement_of(description, result_of(description, text)), fuel)
    return shown


def image_shows(description, built, fuel):
    """What the image of what was built shows on the machine; raise FuelError."""
    shown, _, _, _ = execute(description[6], built.image, fuel)
    return shown


def read_by(description, text):
    """The description for which the result of a text stands; raise TreeError, ValueFault or DescriptionError."""
    return from_value(result_of(description, text))
