"""Linking: points 27.1 to 27.5."""

import copy
import random
import unittest

from scribeself.codes import assemble
from scribeself.errors import LinkError
from scribeself.linking import addresses, combine, link, missing, pulled

FIRST = ("object", [218103808, 234881024], [("start", 0)], [(0, "next")])
SECOND = ("object", [186646528, 218103808, 234881024], [("next", 0)], [(1, "start")])


def part(places, needs, size=4):
    """An object that places names at addresses, and has relocations with names at addresses."""
    return ("object", [1000 * at for at in range(size)], sorted(places.items()), sorted(needs.items()))


def some_part(chance, names):
    size = chance.randint(0, 6)
    needs = {at: chance.choice(names + ["", ""]) for at in range(size) if chance.random() < 0.5}
    return ("object", [chance.randrange(1000) for _ in range(size)], [], sorted(needs.items()))


def some_parts(chance, many=5):
    """Objects in which each name is placed at most once."""
    names = list("abcdef")
    parts = [some_part(chance, names) for _ in range(chance.randint(0, many))]
    for name in names:
        if parts and chance.random() < 0.7:
            kind, words, symbols, relocations = parts[chance.randrange(len(parts))]
            symbols.append((name, chance.randint(0, len(words))))
    return parts


class LinkingTest(unittest.TestCase):
    def raises(self, name, call, *args):
        with self.assertRaises(LinkError) as caught:
            call(*args)
        self.assertEqual(caught.exception.name, name)

    def test_example(self):
        self.assertEqual(link([FIRST, SECOND]), [218103810, 234881024, 186646528, 218103808, 234881024])
        self.assertEqual(combine([SECOND]), SECOND)

    def test_addresses(self):
        self.assertEqual(addresses([]), {})
        self.assertEqual(addresses([FIRST, SECOND]), {"start": 0, "next": 2})
        self.assertEqual(addresses([part({"a": 1, "b": 4}, {}), part({}, {}, 0), part({"c": 0, "d": 3}, {}, 3), part({"e": 2}, {})]),
                         {"a": 1, "b": 4, "c": 4, "d": 7, "e": 9})

    def test_names_placed_twice(self):
        parts = [part({"b": 0}, {}), part({"c": 0, "d": 1}, {0: "x"}), part({"a": 0, "c": 1, "d": 2}, {}), part({"b": 0}, {})]
        for call in [addresses, combine, link, missing]:
            self.raises("c", call, parts)
            self.raises("b", call, parts[:2] + parts[3:])
            self.raises("b", call, [parts[0], parts[0]])

    def test_combine(self):
        self.assertEqual(combine([]), ("object", [], [], []))
        self.assertEqual(combine([part({}, {}, 0), part({}, {}, 0)]), ("object", [], [], []))
        one, two = part({"b": 1}, {0: "", 1: "a", 3: "far"}), part({"a": 2}, {0: "b", 2: "", 3: "a"})
        self.assertEqual(combine([one, two]), ("object", [0, 1006, 2000, 3000, 1, 1000, 2004, 3006], [("a", 6), ("b", 1)],
                                               [(0, ""), (1, ""), (3, "far"), (4, ""), (6, ""), (7, "")]))
        self.assertEqual(combine([two, one])[1:3], ([5, 1000, 2000, 3002, 4, 1002, 2000, 3000], [("a", 2), ("b", 5)]))

    def test_link(self):
        self.assertEqual(link([]), [])
        self.assertEqual(link([assemble([("jump", 3), ("label", 3)]), assemble([("label", 0), ("jz", 1, 0)])]), [218103809, 234881024, 202375170, 234881024])
        self.raises("next", link, [FIRST])
        self.raises("z", link, [part({}, {1: "z", 2: "y"}), part({}, {0: "x"})])
        self.raises("y", link, [part({"z": 0}, {1: "z", 2: "y"}), part({}, {0: "x"})])
        # A name that is placed twice is told first.
        self.raises("a", link, [part({"a": 0}, {0: "z"}), part({"a": 0}, {})])

    def test_missing(self):
        self.assertEqual(missing([]), [])
        self.assertEqual(missing([FIRST]), ["next"])
        self.assertEqual(missing([FIRST, SECOND]), [])
        self.assertEqual(missing([part({}, {0: "z", 1: "", 2: "z"}), part({"b": 0}, {0: "a", 1: "b", 2: "z"})]), ["a", "z"])

    def test_pulled(self):
        self.assertEqual(pulled([FIRST], [FIRST, SECOND]), [1])
        self.assertEqual(pulled([], [FIRST, SECOND]), [])
        self.assertEqual(pulled([FIRST], []), [])
        library = [part({"c": 0}, {0: "d"}), part({"b": 0}, {0: "c", 1: "unknown"}), part({"b": 1, "d": 0}, {}), part({"d": 0, "b": 0}, {0: "e"}), part({"e": 0}, {})]
        self.assertEqual(pulled([part({}, {0: "b"})], library), [0, 1, 2])
        self.assertEqual(pulled([part({}, {0: "d"})], library), [2])
        self.assertEqual(pulled([part({}, {0: "e"})], library), [4])
        self.assertEqual(pulled([part({"c": 0}, {0: "b"})], library), [1])
        self.assertEqual(pulled([part({}, {0: ""}), part({}, {0: "nothing"})], library), [])
        # A circle, and a name that an object needs and places itself.
        library = [part({"a": 0}, {0: "b"}), part({"b": 0}, {0: "a"}), part({"x": 0}, {0: "x"}), part({"a": 0}, {0: "x"})]
        self.assertEqual(pulled([part({}, {0: "b"})], library), [0, 1])
        self.assertEqual(pulled([part({}, {0: "x"})], library), [2])
        self.assertEqual(pulled([part({"b": 0}, {0: "a"})], library), [0])

    def test_pulled_raises_nothing(self):
        twice = part({"a": 0}, {0: "b"})
        self.assertEqual(pulled([twice, twice], [part({"b": 0}, {0: "a"}), part({"b": 0}, {})]), [0])

    def test_a_long_chain(self):
        library = [part({"n" + str(k): 0}, {0: "n" + str(k + 1)}) for k in range(90)]
        self.assertEqual(pulled([part({}, {0: "n7"})], library[::-1]), list(range(83)))

    def test_lists_by_chance(self):
        chance = random.Random(272)
        linked = 0
        for _ in range(500):
            parts = some_parts(chance)
            bases = [sum(len(one[1]) for one in parts[:k]) for k in range(len(parts))]
            known = {name: base + at for base, one in zip(bases, parts) for name, at in one[2]}
            self.assertEqual(addresses(parts), known)
            kind, words, symbols, relocations = combine(parts)
            self.assertEqual((kind, symbols), ("object", sorted(known.items())))
            plain = []
            for base, one in zip(bases, parts):
                for at, word in enumerate(one[1]):
                    name = dict(one[3]).get(at)
                    plain.append(word + (base if name == "" else known.get(name, 0)))
                    if name is not None:
                        self.assertIn((base + at, "" if name in known else name), relocations)
            self.assertEqual(words, plain)
            self.assertEqual(len(relocations), sum(len(one[3]) for one in parts))
            self.assertEqual(relocations, sorted(relocations))
            wanted = [name for one in parts for _, name in one[3] if name and name not in known]
            self.assertEqual(missing(parts), sorted(set(wanted)))
            if wanted:
                self.raises(wanted[0], link, parts)
            else:
                linked += 1
                self.assertEqual(link(parts), words)
            # Combining neighbours first makes no difference.
            one, two = sorted([chance.randint(0, len(parts)), chance.randint(0, len(parts))])
            self.assertEqual(combine(parts[:one] + [combine(parts[one:two])] + parts[two:]), combine(parts))
        self.assertGreater(linked, 50)

    def test_pulled_by_chance(self):
        chance = random.Random(274)
        for _ in range(500):
            parts, library = some_parts(chance, 3), some_parts(chance, 4) + some_parts(chance, 4)
            placed = {name for one in parts for name, _ in one[2]}
            found = set()
            while True:
                names = {name for one in parts + [library[at] for at in found] for _, name in one[3]} - placed - {""}
                more = {min(at for at, one in enumerate(library) if name in dict(one[2])) for name in names if any(name in dict(one[2]) for one in library)}
                if more <= found:
                    break
                found |= more
            self.assertEqual(pulled(parts, library), sorted(found))

    def test_arguments_stay_and_results_are_new(self):
        parts = [copy.deepcopy(SECOND), copy.deepcopy(FIRST)]
        for call in [addresses, combine, link, missing, lambda given: pulled(given[:1], given)]:
            found = call(parts)
            kept = copy.deepcopy(found)
            for one in found if isinstance(found, tuple) else [found]:
                if isinstance(one, (list, dict)):
                    one.clear()
            self.assertEqual(call(parts), kept)
            self.assertEqual(parts, [SECOND, FIRST])
        found = combine(parts[:1])
        for one in found[1:]:
            one.clear()
        self.assertEqual(parts, [SECOND, FIRST])


if __name__ == "__main__":
    unittest.main()
