"""Going through nested things from the inside, without deep calls."""


def folded(whole, parts_of, made):
    """What `made` makes of a whole and the list of what it has made of its parts, which `parts_of` tells."""
    order = []
    todo = [whole]
    while todo:
        one = todo.pop()
        parts = parts_of(one)
        order.append((one, len(parts)))
        todo.extend(parts)
    ready = []
    # From the end on, the parts of each one stand before it, the last one at the end of what is ready.
    for one, many in order[::-1]:
        first = len(ready) - many
        found = made(one, ready[first:])
        del ready[first:]
        ready.append(found)
    return ready[0]
