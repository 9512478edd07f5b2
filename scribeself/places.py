"""The trees of a text that filters leave: places, their alternatives, and the numbers of their trees.

A draft is an alternative with the kids that are names: `(rule, positions, kids)`, where kids is a list of pairs of
the index and the place of a kid.
"""

from scribeself.charts import is_read
from scribeself.errors import TreeError


class Sieve:
    """Filters, prepared. It keeps no list of the filters, so nobody can change it later."""

    def __init__(self, filters):
        self.banned = {}
        self.stops = {}
        self.bars = {}
        self.pairs = [(sieve[1], sieve[2]) for sieve in filters if sieve[0] == "first"]
        for sieve in filters:
            if sieve[0] == "under":
                self.ban(sieve)
            elif sieve[0] == "stop":
                self.stops[sieve[1]] = self.stops.get(sieve[1], "") + sieve[2]
            elif sieve[0] == "bar":
                self.bars.setdefault(sieve[1], []).extend(sieve[2])

    def ban(self, sieve):
        """Take in a filter "under"."""
        _, upper, kid, lower = sieve
        rules = self.banned.get((upper, kid), ())
        self.banned[(upper, kid)] = tuple(sorted(set(rules + (lower,))))

    def stands(self, name, start, end, text):
        """Whether the filters of a name allow a node of it at a stretch of a text."""
        behind = text[end:end + 1]
        if behind != "" and behind in self.stops.get(name, ""):
            return False
        return name not in self.bars or text[start:end] not in self.bars[name]

    def sifted(self, drafts):
        """The drafts of a place that the filters "first" leave."""
        rules = {draft[0]: True for draft in drafts}
        left_out = {lower: True for upper, lower in self.pairs if upper in rules}
        return [draft for draft in drafts if draft[0] not in left_out]


class Forest:
    """The places in the trees of a text, each behind those of its kids, with their drafts and numbers of trees."""

    def __init__(self, tables, sieve, text, columns):
        self.tables = tables
        self.sieve = sieve
        self.text = text
        self.columns = columns
        self.root = (tables.start, 0, len(text), ())
        self.places = {}
        if is_read(tables, text, columns):
            self.places = only_reached(self.settled(), self.root)
        self.numbers = {}
        for place in self.places:
            self.numbers[place] = sum([self.trees_of(draft) for draft in self.places[place]])

    def settled(self):
        """A dict from all places that could stand in a tree to their drafts that are left.

        No place needs itself: a kid with the whole stretch of its node stands beside empty names only, and no name
        can derive itself alone.
        """
        found = {}
        drafts = {}
        stack = [self.root]
        while stack:
            place = stack[-1]
            if place in found:
                stack.pop()
            elif place in drafts:
                found[place] = self.left_of(drafts[place], found)
            else:
                drafts[place] = self.drafted(place)
                stack.extend([kid for _, _, kids in drafts[place] for _, kid in kids if kid not in found])
        return found

    def left_of(self, drafts, found):
        """The drafts whose kids have alternatives, as far as the filters "first" leave them."""
        full = [draft for draft in drafts if all([found[kid] for _, kid in draft[2]])]
        return self.sieve.sifted(full)

    def drafted(self, place):
        """All drafts of a place, by rule and positions, whatever its kids have."""
        name, start, end, banned = place
        if not self.sieve.stands(name, start, end, self.text):
            return []
        rules = self.tables.possible(name, self.text[start:start + 1])
        return [(rule, positions, self.kids_of(rule, positions))
                for rule in rules if rule not in banned
                for positions in self.divisions(rule, start, end)]

    def divisions(self, rule, start, end):
        """The lists of positions that divide a stretch among the symbols of a rule, ascending."""
        seen = len(self.tables.symbols[rule])
        if (rule, seen, start) not in self.columns[end].links:
            return []
        found = [[end]]
        while seen > 0:
            found = [[before] + positions for positions in found
                     for before in self.columns[positions[0]].links[(rule, seen, start)]]
            seen -= 1
        return sorted(found)

    def kids_of(self, rule, positions):
        """The pairs of the indexes and places of the kids that are names."""
        banned = self.sieve.banned
        return [(kid, (word, positions[kid], positions[kid + 1], banned.get((rule, kid), ())))
                for kid, (kind, word) in enumerate(self.tables.symbols[rule]) if kind == "nt"]

    def trees_of(self, draft):
        """The number of the trees with the alternative of a draft at the top."""
        many = 1
        for _, kid in draft[2]:
            many *= self.numbers[kid]
        return many

    def total(self):
        """The number of the trees of the text."""
        return self.numbers.get(self.root, 0)

    def tree(self, number):
        """The tree with a number."""
        if not 0 <= number < self.total():
            raise TreeError("there is no such tree")
        top = [""]
        todo = [(top, 0, self.root, number)]
        # Lists of kids are filled after their nodes are made, so that deep trees need no deep calls.
        while todo:
            kids, at, place, rest = todo.pop()
            (rule, positions, below), rest = self.chosen(place, rest)
            told = [self.text[positions[k]:positions[k + 1]] for k in range(len(positions) - 1)]
            todo.extend(self.shares(told, below, rest))
            kids[at] = ("node", rule, told)
        return top[0]

    def chosen(self, place, number):
        """The draft that has the tree of a place with a number, and the number of the tree in it."""
        for draft in self.places[place]:
            many = self.trees_of(draft)
            if number < many:
                return draft, number
            number -= many
        raise TreeError("there is no such tree")

    def shares(self, told, below, number):
        """What is left to do for the kids of a node: its list, and the index, place and number of each."""
        todo = []
        for kid, place in below[::-1]:
            todo.append((told, kid, place, number % self.numbers[place]))
            number = number // self.numbers[place]
        return todo


def only_reached(found, root):
    """The places that are reached from a place through their drafts, in the same order; none if it has no drafts."""
    if not found[root]:
        return {}
    reached = {root: True}
    todo = [root]
    while todo:
        place = todo.pop()
        kids = [kid for _, _, pairs in found[place] for _, kid in pairs if kid not in reached]
        for kid in kids:
            reached[kid] = True
        todo.extend(kids)
    return {place: found[place] for place in found if place in reached}
