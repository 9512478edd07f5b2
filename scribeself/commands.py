"""The commands of a desk, as lines."""

from scribeself.errors import DescriptionError
from scribeself.scanning import Scanner

# The kinds of the words behind the first one.
WORDS = {
    "edit": ("number", "number", "text"),
    "undo": (),
    "redo": (),
    "text": (),
    "trees": (),
    "tree": ("number",),
    "kept": (),
    "value": ("path", "attribute"),
    "result": (),
    "computed": (),
    "statement": (),
    "code": (),
    "run": ("number",),
    "mean": ("number",),
    "mend": (),
}


def command_in(line):
    """The pair of the name of a command and the list of what its words mean, or None if the line is none."""
    scan = Scanner(line)
    try:
        name = scan.read_name()
        words = [word_in(scan, kind) for kind in WORDS.get(name, ())]
    except DescriptionError:
        return None
    return (name, words) if name in WORDS and scan.at == len(line) else None


def word_in(scan, kind):
    """What the next word of a line means."""
    scan.expect(" ")
    if kind == "number":
        return scan.read_number()
    if kind == "text":
        return scan.read_quoted("'", "'")
    return path_in(scan) if kind == "path" else scan.read_name()


def path_in(scan):
    """The path that the next word means."""
    if scan.passes("-"):
        return ()
    path = [scan.read_number()]
    while scan.passes("."):
        path.append(scan.read_number())
    return tuple(path)
