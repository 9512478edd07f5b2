"""Classes of characters: strings with each character once, in ascending order."""

CHARACTERS = ("\n !\"#$&'()*+,-./0123456789:;<=>?@ABCDEFGHIJKLMNOPQRSTUVWXYZ"
              "[\\]^_`abcdefghijklmnopqrstuvwxyz{|}~")


def all_characters():
    """The class of all characters of texts."""
    return CHARACTERS


def canon(text):
    """The class of the characters of a text."""
    return "".join(sorted(set(text)))


def is_class(text):
    """Whether a string is a class."""
    return text == canon(text) and is_text(text)


def is_text(text):
    """Whether a string consists of characters of texts."""
    return all([char in CHARACTERS for char in text])


def union(first, second):
    """The class of the characters in either class."""
    return canon(first + second)


def minus(first, second):
    """The class of the characters in the first class, but not in the second one."""
    return "".join([char for char in first if char not in second])


def inverse(chars):
    """The class of the characters of texts that are not in a class."""
    return minus(CHARACTERS, chars)


def split(classes):
    """The classes of the characters that belong to exactly the same ones of the classes."""
    groups = {}
    for char in canon("".join(classes)):
        owners = tuple([char in chars for chars in classes])
        groups[owners] = groups.get(owners, "") + char
    return sorted(groups.values())
