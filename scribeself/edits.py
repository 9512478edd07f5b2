"""Edits of texts: `(at, removed, text)` removes some characters at a position and puts a text in their place."""

from scribeself.errors import EditError


def check_fit(text, edit):
    """Raise EditError if an edit does not fit a text."""
    at, removed, _ = edit
    if at < 0 or removed < 0 or at + removed > len(text):
        raise EditError("the edit does not fit the text")


def applied(text, edit):
    """The text after an edit."""
    check_fit(text, edit)
    at, removed, new = edit
    return text[:at] + new + text[at + removed:]


def inverse_of(text, edit):
    """The edit that leads back from the text after an edit."""
    check_fit(text, edit)
    at, removed, new = edit
    return (at, len(new), text[at:at + removed])


def moved(edit, position, right):
    """A position after an edit."""
    at, removed, new = edit
    if position < at or (position == at and removed == 0 and not right):
        return position
    if position >= at + removed:
        return position + len(new) - removed
    return at + len(new) if right and position > at else at


def difference(first, second):
    """The edit from one text to another that keeps the longest beginning, and behind it the longest end."""
    least = min(len(first), len(second))
    same = 0
    while same < least and first[same] == second[same]:
        same += 1
    end = 0
    while end < least - same and first[-1 - end] == second[-1 - end]:
        end += 1
    return (same, len(first) - same - end, second[same:len(second) - end])


def joined(text, first, second):
    """One edit that does what two edits do one after the other, on the least stretch that contains both stretches."""
    final = applied(applied(text, first), second)
    start = min(first[0], place_before(first, second[0]))
    end = max(first[0] + first[1], place_before(first, second[0] + second[1]))
    return (start, end - start, final[start:len(final) - (len(text) - end)])


def place_before(edit, position):
    """A position ahead of an edit for one behind it; for one inside of the new text, the beginning of the stretch."""
    at, removed, new = edit
    if position >= at + len(new):
        return position - len(new) + removed
    return min(position, at)
