"""Linking: one object or one image of a list of objects."""

from scribeself.errors import LinkError


def bases(parts):
    """The list of the bases of the objects of a list."""
    found = []
    base = 0
    for _, words, _, _ in parts:
        found.append(base)
        base += len(words)
    return found


def addresses(parts):
    """A dict from the names that the objects of a list place to their addresses; raise LinkError."""
    found = {}
    for base, (_, _, symbols, _) in zip(bases(parts), parts):
        for name, at in symbols:
            if name in found:
                raise LinkError(name)
            found[name] = base + at
    return found


def combine(parts):
    """The combined object of a list of objects; raise LinkError if a name is placed twice."""
    known = addresses(parts)
    words = []
    found = []
    for base, (_, more, _, relocations) in zip(bases(parts), parts):
        words.extend(more)
        for at, name in relocations:
            if name == "":
                words[base + at] += base
            else:
                words[base + at] += known.get(name, 0)
            found.append((base + at, "" if name in known else name))
    return ("object", words, [(name, known[name]) for name in sorted(known)], found)


def link(parts):
    """The image of a list of objects; raise LinkError if a name is placed twice, or not at all."""
    _, words, _, relocations = combine(parts)
    for _, name in relocations:
        if name != "":
            raise LinkError(name)
    return words


def missing(parts):
    """The ascending list of the names that the objects of a list need and do not place."""
    known = addresses(parts)
    return sorted({name for part in parts for name in needed_by(part) if name not in known})


def needed_by(part):
    """The names that the relocations of an object have."""
    return [name for _, name in part[3] if name != ""]


def pulled(parts, library):
    """The ascending list of the indexes of the pulled objects in a library."""
    known = {name: True for part in parts for name, _ in part[2]}
    first = {}
    for at, part in enumerate(library):
        for name, _ in part[2]:
            first.setdefault(name, at)
    found = {}
    todo = list(parts)
    while todo:
        for name in needed_by(todo.pop()):
            if name not in known and name in first and first[name] not in found:
                found[first[name]] = True
                todo.append(library[first[name]])
    return sorted(found)
