"""The words of descriptions: names, numbers, texts, and parts in brackets, read from left to right."""

from scribeself.errors import DescriptionError
from scribeself.grammars import LETTERS, LETTERS_AND_DIGITS
from scribeself.quoting import SIGNS, plain_characters

DIGITS = "0123456789"
MOST_DIGITS = 9


class Scanner:
    """A text and a position in it. What does not fit raises DescriptionError with its line."""

    def __init__(self, text):
        self.text = text
        self.at = 0
        self.plain = plain_characters()

    def line_number(self):
        """The number of the line with the position, from 1 on."""
        return self.text[:self.at].count("\n") + 1

    def sees(self, word):
        """Whether a word stands at the position."""
        return self.text.startswith(word, self.at)

    def sees_one(self, chars):
        """Whether one of some characters stands at the position."""
        return self.at < len(self.text) and self.text[self.at] in chars

    def passes(self, word):
        """Whether a word stands at the position, which then goes behind it."""
        if not self.sees(word):
            return False
        self.at += len(word)
        return True

    def expect(self, word):
        """Go behind a word that must stand here."""
        if not self.passes(word):
            raise DescriptionError(self.line_number())

    def stretch(self, chars):
        """The longest stretch of some characters, which may be empty."""
        first = self.at
        while self.sees_one(chars):
            self.at += 1
        return self.text[first:self.at]

    def read_name(self):
        """A name of any length."""
        if not self.sees_one(LETTERS):
            raise DescriptionError(self.line_number())
        return self.stretch(LETTERS_AND_DIGITS)

    def sees_digit(self):
        """Whether a digit stands at the position."""
        return self.sees_one(DIGITS)

    def read_number(self):
        """A number of 1 to 9 digits."""
        digits = self.stretch(DIGITS)
        if not 1 <= len(digits) <= MOST_DIGITS:
            raise DescriptionError(self.line_number())
        return int(digits)

    def read_quoted(self, opening, closing):
        """The text between two characters."""
        self.expect(opening)
        found = []
        while not self.passes(closing):
            found.append(self.read_sign() if self.passes("\\") else self.read_plain())
        return "".join(found)

    def read_sign(self):
        """The character for the sign behind a backslash."""
        for sign in SIGNS:
            if self.passes(sign):
                return SIGNS[sign]
        raise DescriptionError(self.line_number())

    def read_plain(self):
        """The characters that are written as they are, at least one."""
        found = self.stretch(self.plain)
        if found == "":
            raise DescriptionError(self.line_number())
        return found

    def read_word(self, words):
        """The one of some words that stands here with a space behind it, or None."""
        for word in words:
            if self.passes(word + " "):
                return word
        return None


def in_brackets(scan, head, leaf, made):
    """A leaf, or a bracket with a head and parts that are leaves or such brackets themselves.

    `head` and `leaf` read these, and `made` makes the part of a head and the list of the parts in its bracket. The
    brackets that are open are kept in a list, as they may be deep.
    """
    frames = []
    while True:
        part = None
        if scan.passes("("):
            frames.append((head(scan), []))
        else:
            part = leaf(scan)
        part = closed(scan, frames, made, part)
        if not frames:
            return part
        scan.expect(" ")


def closed(scan, frames, made, part):
    """Put a part into the innermost open bracket, and close those that end here; return what is in none then."""
    while frames:
        head, parts = frames[-1]
        if part is not None:
            parts.append(part)
        if not scan.passes(")"):
            return None
        frames.pop()
        part = made(scan, head, parts)
    return part
