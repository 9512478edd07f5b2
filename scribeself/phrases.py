"""Expressions and patterns in the texts of descriptions: how they are read and written."""

from scribeself.errors import DescriptionError
from scribeself.folding import folded
from scribeself.quoting import quoted
from scribeself.scanning import in_brackets

CHOICE = "?"
MAKE = "make "


def read_expression(scan):
    """The expression at the position of a scanner."""
    return in_brackets(scan, expression_head, expression_leaf, expression_made)


def expression_head(scan):
    """The name of a function, or the sign of a choice."""
    if scan.passes(CHOICE):
        return CHOICE
    return MAKE + scan.read_name() if scan.passes("!") else scan.read_name()


def expression_leaf(scan):
    """An expression without brackets."""
    if scan.passes("."):
        return ("own", scan.read_name())
    if scan.passes("$"):
        return ("kidtext", scan.read_number()) if scan.sees_digit() else ("text",)
    if not scan.sees_digit():
        return ("val", read_constant(scan))
    number = scan.read_number()
    return ("kid", number, scan.read_name()) if scan.passes(".") else ("val", number)


def read_constant(scan):
    """An integer or a string."""
    if scan.passes("-"):
        return -scan.read_number()
    return scan.read_number() if scan.sees_digit() else scan.read_quoted("\"", "\"")


def expression_made(scan, head, parts):
    """The expression of a head and the expressions in its bracket."""
    if head != CHOICE:
        return ("call", head, parts)
    if len(parts) != 3:
        raise DescriptionError(scan.line_number())
    return ("if", parts[0], parts[1], parts[2])


def read_pattern(scan):
    """The pattern at the position of a scanner."""
    return in_brackets(scan, term_name, pattern_leaf, term_made)


def read_term(scan):
    """The pattern at the position of a scanner, which must be a term."""
    if not scan.sees("("):
        raise DescriptionError(scan.line_number())
    return read_pattern(scan)


def term_name(scan):
    """The name of a term."""
    return scan.read_name()


def pattern_leaf(scan):
    """A pattern without brackets."""
    return ("hole", scan.read_name()) if scan.passes("?") else read_constant(scan)


def term_made(_, name, parts):
    """The term of a name and the patterns in its bracket."""
    return ("term", name, parts)


def written_expression(expression):
    """The text of an expression."""
    return folded(expression, parts_of_expression, joined_expression)


def parts_of_expression(expression):
    """The expressions in the bracket of an expression."""
    if expression[0] == "if":
        return list(expression[1:])
    return expression[2] if expression[0] == "call" else []


def joined_expression(expression, texts):
    """The text of an expression, by those of the expressions in its bracket."""
    kind = expression[0]
    if kind == "if":
        return in_round([CHOICE] + texts)
    if kind == "call":
        name = expression[1]
        return in_round(["!" + name[len(MAKE):] if name.startswith(MAKE) else name] + texts)
    if kind == "val":
        return written_constant(expression[1])
    if kind == "own":
        return "." + expression[1]
    if kind == "kid":
        return str(expression[1]) + "." + expression[2]
    return "$" if kind == "text" else "$" + str(expression[1])


def written_constant(constant):
    """The text of an integer or a string."""
    return quoted("\"", constant, "\"") if isinstance(constant, str) else str(constant)


def in_round(words):
    """Words in a round bracket."""
    return "(" + " ".join(words) + ")"


def written_pattern(pattern):
    """The text of a pattern."""
    return folded(pattern, parts_of_pattern, joined_pattern)


def parts_of_pattern(pattern):
    """The patterns in the bracket of a pattern."""
    return pattern[2] if isinstance(pattern, tuple) and pattern[0] == "term" else []


def joined_pattern(pattern, texts):
    """The text of a pattern, by those of the patterns in its bracket."""
    if not isinstance(pattern, tuple):
        return written_constant(pattern)
    return "?" + pattern[1] if pattern[0] == "hole" else in_round([pattern[1]] + texts)
