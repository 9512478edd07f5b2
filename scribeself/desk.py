"""The desk: a text with its description, edited and asked by lines."""

from scribeself.building import build, image_shows, meaning_shows
from scribeself.commands import command_in
from scribeself.edits import applied, inverse_of
from scribeself.errors import (CoverError, CycleError, EditError, EquationError, FuelError, SpillError, TrapError,
                               TreeError, ValueFault)
from scribeself.machines import format_instruction
from scribeself.mends import mend
from scribeself.moments import Moment
from scribeself.reuse import kept, read, read_again
from scribeself.showing import shown_numbers, shown_statement, shown_text, shown_tree, shown_value
from scribeself.trees import nodes, subtree

MOST_CHARACTERS = 6000
NOTHING = "nothing"


def tell_edit(desk, at, removed, text):
    """Do an edit; nothing can be done again then."""
    edit = (at, removed, text)
    if len(applied(desk.moment.reading.text, edit)) > MOST_CHARACTERS:
        raise EditError("the new text is too long")
    desk.done.append((edit, inverse_of(desk.moment.reading.text, edit)))
    desk.undone.clear()
    return desk.change(edit)


def tell_undo(desk):
    """Take back the last edit that was done and not taken back."""
    if not desk.done:
        return [NOTHING]
    desk.undone.append(desk.done.pop())
    return desk.change(desk.undone[-1][1])


def tell_redo(desk):
    """Do the edit once more that was taken back last."""
    if not desk.undone:
        return [NOTHING]
    desk.done.append(desk.undone.pop())
    return desk.change(desk.done[-1][0])


def tell_text(desk):
    """The text."""
    return ["text " + shown_text(desk.moment.reading.text)]


def tell_trees(desk):
    """The number of the trees."""
    return ["trees " + str(desk.moment.reading.total())]


def tell_tree(desk, number):
    """The tree with a number."""
    labels = [rule[2] for rule in desk.description[1][2]]
    return [shown_tree(desk.moment.reading.tree(number), labels)]


def tell_kept(desk):
    """How many nodes of the first tree lie in nodes that were kept in the last change."""
    if desk.last is None:
        return [NOTHING]
    old, edit = desk.last
    new = desk.moment.tree
    if old is None or new is None:
        raise TreeError("a text has no tree")
    many = sum([len(nodes(subtree(new, path))) for _, path in kept(old, new, edit)])
    return ["kept " + str(many) + " of " + str(len(nodes(new)))]


def tell_value(desk, path, attribute):
    """The value of an instance."""
    if desk.moment.fault != "":
        return [desk.fault_line()]
    known = desk.moment.record.known
    if (path, attribute) not in known:
        return [NOTHING]
    return ["value " + shown_value(known[(path, attribute)])]


def tell_result(desk):
    """The result."""
    return tell_value(desk, (), "out")


def tell_computed(desk):
    """How many instances were computed for the present tree."""
    return [desk.fault_line() if desk.moment.fault != "" else "computed " + str(desk.moment.many)]


def tell_statement(desk):
    """The statement of the text."""
    return ["statement " + shown_statement(desk.built().statement)]


def tell_code(desk):
    """The lines of the code."""
    return [format_instruction(instruction) for instruction in desk.built().code]


def tell_run(desk, fuel):
    """What the image shows on the machine."""
    return [shown_numbers(image_shows(desk.description, desk.built(), fuel))]


def tell_mean(desk, fuel):
    """What the statement shows by its meaning."""
    return [shown_numbers(meaning_shows(desk.description, desk.moment.reading.text, fuel))]


def tell_mend(desk):
    """The distance and the best text."""
    grammar = desk.description[1]
    if "run" in [kind for rule in grammar[2] for kind, _ in rule[3]]:
        return ["error runs"]
    edits, new = mend(grammar, desk.moment.reading.text)
    return ["mend " + str(len(edits)) + " " + shown_text(new)]


ACTIONS = {
    "edit": tell_edit,
    "undo": tell_undo,
    "redo": tell_redo,
    "text": tell_text,
    "trees": tell_trees,
    "tree": tell_tree,
    "kept": tell_kept,
    "value": tell_value,
    "result": tell_result,
    "computed": tell_computed,
    "statement": tell_statement,
    "code": tell_code,
    "run": tell_run,
    "mean": tell_mean,
    "mend": tell_mend,
}


class Desk:
    """A desk. `done` and `undone` have pairs of an edit and the one that takes it back; the last ones come first.

    `last` is the first tree before the last change and the edit that was done then.
    """

    def __init__(self, description, text):
        self.description = description
        self.moment = Moment(description, read(description[1], description[2], text), None)
        self.done = []
        self.undone = []
        self.last = None
        self.made = None

    def command(self, line):
        """Perform a command; return the list of the lines that it gives."""
        told = command_in(line)
        if told is None:
            return ["error line"]
        name, words = told
        action = ACTIONS[name]
        try:
            return action(self, *words)
        except EditError:
            return ["error EditError"]
        except TreeError:
            return ["error TreeError"]
        except EquationError:
            return ["error EquationError"]
        except CycleError:
            return ["error CycleError"]
        except ValueFault:
            return ["error ValueFault"]
        except FuelError:
            return ["error FuelError"]
        except CoverError:
            return ["error CoverError"]
        except SpillError:
            return ["error SpillError"]
        except TrapError:
            return ["error TrapError"]

    def change(self, edit):
        """Change the text by an edit that fits."""
        before = self.moment
        self.moment = Moment(self.description, read_again(before.reading, edit), before)
        self.last = (before.tree, edit)
        self.made = None
        reading = self.moment.reading
        return ["edited " + str(len(reading.text)) + " " + str(reading.made)]

    def built(self):
        """What is built from the text, which is made when it is first asked for."""
        if self.made is None:
            self.made = build(self.description, self.moment.reading.text)
        return self.made

    def fault_line(self):
        """The line for the error of the tree or of its values."""
        return "error " + self.moment.fault


def session(description, text, lines):
    """The lines that commands give, one after the other, on a new desk."""
    desk = Desk(description, text)
    found = []
    for line in lines:
        found.extend(desk.command(line))
    return found
