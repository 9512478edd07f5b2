"""The errors that the program raises."""


class ScribeError(ValueError):
    """The base class of all errors of the program."""


class TreeError(ScribeError):
    """A text has no such tree."""


class EditError(ScribeError):
    """An edit or a pair of positions does not fit a text."""


class EquationError(ScribeError):
    """Attributes or the values of their equations are not as they must be."""


class ValueFault(ScribeError):
    """Something has no value."""


class FuelError(ScribeError):
    """A run needs more steps than it may take."""


class CoverError(ScribeError):
    """A pattern of covers is not taken, or an expression has no cover."""


class SpillError(ScribeError):
    """There is no place for a register."""


class GrammarError(ScribeError):
    """A part of a grammar, of filters, of a graph or of a policy is wrong."""

    def __init__(self, rule, at):
        self.rule = rule
        self.at = at


class CycleError(ScribeError):
    """Attributes need themselves."""

    def __init__(self, cycle):
        self.cycle = cycle


class NameFault(ScribeError):
    """A reference has no single meaning, or would get another one."""

    def __init__(self, at):
        self.at = at


class MachineError(ScribeError):
    """A list of instructions or its text is wrong."""

    def __init__(self, at):
        self.at = at


class TrapError(ScribeError):
    """A run or a list of words comes to something that is no instruction."""

    def __init__(self, at):
        self.at = at


class DescriptionError(ScribeError):
    """A text is not that of a description."""

    def __init__(self, line):
        self.line = line


class LinkError(ScribeError):
    """A name is placed twice, or not at all."""

    def __init__(self, name):
        self.name = name
