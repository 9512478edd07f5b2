"""How texts are written between quotes or brackets in descriptions."""

from scribeself.classes import inverse

# What is written behind a backslash, and the character that it stands for.
SIGNS = {"\\": "\\", "'": "'", "\"": "\"", "]": "]", "}": "}", "n": "\n"}


def plain_characters():
    """The class of the characters that are written as they are."""
    return inverse("\n\"'\\]}")


def quoted(opening, text, closing):
    """A text between two characters, with signs for the special ones in it."""
    signs = {SIGNS[sign]: "\\" + sign for sign in SIGNS}
    return opening + "".join([signs.get(char, char) for char in text]) + closing
