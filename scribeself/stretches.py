"""The least numbers of changes from the stretches of a text to a literal or a class."""


def row_after(row, char, word):
    """The numbers of changes from a text with one more character to the beginnings of a word, by those of the text."""
    found = [row[0] + 1]
    for k, other in enumerate(word):
        same = 0 if char == other else 1
        found.append(min(row[k] + same, row[k + 1] + 1, found[k] + 1))
    return found


def rows_between(text, word):
    """The numbers of changes from all beginnings of a text to all beginnings of a word."""
    rows = [list(range(len(word) + 1))]
    for char in text:
        rows.append(row_after(rows[-1], char, word))
    return rows


def numbers_of(symbol, text):
    """For each start, the list of the numbers of a literal or class for the stretches from there, by length."""
    kind, word = symbol
    starts = range(len(text) + 1)
    if kind == "lit":
        return [[row[-1] for row in rows_between(text[start:], word)] for start in starts]
    return [class_numbers(text[start:], word) for start in starts]


def class_numbers(text, chars):
    """The numbers of a class for the beginnings of a text, by their length."""
    found = [1]
    member = False
    for k, char in enumerate(text):
        member = member or char in chars
        found.append(k if member else k + 1)
    return found
