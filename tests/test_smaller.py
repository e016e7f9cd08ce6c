"""Point 33 and formatfit/smaller.py: names that are reached, names that are alike, and the smaller format."""

import copy
import itertools
import random
import unittest

from formatfit.common import common_format
from formatfit.format_text import format_text
from formatfit.formats import Format, types_of
from formatfit.likeness import is_same
from formatfit.reading import read_by
from formatfit.smaller import classes, reached, smaller_format
from formatfit.writing import is_format, is_written
from listing import KINDS, Listing, changed_format, in_circles, looser_format, random_format
from listing import choice, may, need, record


class Reached(unittest.TestCase):
    def test_names(self):
        rows = {
            "a": ("list", "b", 0, 1), "b": record(need("x", "d"), may("y", "c"), ("z", "e", "default", 0)),
            "c": ("text", 3), "d": choice(("k", "b"), ("l", "f"), fallback=("l", 0)), "e": ("integer", 0, 0),
            "f": ("any",), "g": ("list", "a", 0, 0), "h": ("list", "h", 0, 0),
        }
        for root, names in [("a", "abcdef"), ("b", "bcdef"), ("c", "c"), ("d", "bcdef"), ("e", "e"), ("f", "f"),
                ("g", "abcdefg"), ("h", "h")]:
            found = reached(Format(root, rows))
            self.assertEqual(found, list(names))
            self.assertIs(type(found), list)

    def test_by_lists_of_no_length_and_types_without_values(self):
        rows = {"r": ("list", "a", 0, 0), "a": record(may("x", "b")), "b": record(need("y", "b"), need("z", "c")),
            "c": ("any",)}
        self.assertEqual(reached(Format("r", rows)), ["a", "b", "c", "r"])

    def test_circles(self):
        names = ["n%02d" % at for at in range(12)]
        ring = {name: ("list", names[(at + 5) % 12], 0, 9) for at, name in enumerate(names)}
        self.assertEqual(reached(Format("n03", ring)), names)
        two = {name: ("list", names[(at + 6) % 12], 0, 9) for at, name in enumerate(names)}
        self.assertEqual(reached(Format("n07", two)), ["n01", "n07"])
        self.assertEqual(reached(in_circles(["optional"] * 4, 0)), names)


INNER = {"i": ("integer", 0, 5), "j": ("integer", 0, 5), "k": ("integer", 0, 6), "t": ("text", 3), "u": ("text", 3),
    "e": ("any",), "f": ("any",)}

# Pairs of definitions, and whether they are alike; i and j, t and u, e and f are, and no others.
ROWS = [
    (("any",), ("any",), True), (("integer", 0, 7), ("integer", 0, 7), True),
    (("integer", 0, 7), ("integer", 0, 8), False),
    (("integer", -1, 7), ("integer", 0, 7), False), (("text", 4), ("text", 4), True), (("text", 4), ("text", 5), False),
    (("any",), ("text", 9), False), (("integer", 4, 4), ("text", 4), False),
    (("list", "i", 0, 3), ("list", "i", 0, 3), True), (("list", "i", 0, 3), ("list", "j", 0, 3), True),
    (("list", "i", 0, 3), ("list", "k", 0, 3), False), (("list", "i", 0, 3), ("list", "i", 0, 4), False),
    (("list", "i", 0, 3), ("list", "i", 1, 3), False), (("list", "i", 0, 0), ("list", "t", 0, 0), False),
    (record(), record(), True), (record(need("a", "i")), record(need("a", "i")), True),
    (record(need("a", "i"), may("b", "t")), record(need("a", "j"), may("b", "u")), True),
    (record(need("a", "i")), record(need("a", "k")), False), (record(need("a", "i")), record(need("b", "i")), False),
    (record(need("a", "i")), record(may("a", "i")), False),
    (record(need("a", "i")), record(("a", "i", "default", 0)), False),
    (record(may("a", "i")), record(("a", "i", "default", 0)), False), (record(need("a", "i")), record(), False),
    (record(need("a", "i"), may("b", "t")), record(need("a", "i")), False),
    (record(("a", "i", "default", 0)), record(("a", "j", "default", 0)), True),
    (record(("a", "i", "default", 0)), record(("a", "i", "default", 1)), False),
    (record(("a", "e", "default", {"x": 0, "y": [1]})), record(("a", "f", "default", {"y": [1], "x": 0})), True),
    (record(("a", "e", "default", {"x": 0, "y": [1]})), record(("a", "f", "default", {"y": [1], "z": 0})), False),
    (record(("a", "e", "default", ["b"])), record(("a", "e", "default", ("b", 0))), False),
    (record(("a", "e", "default", "b")), record(("a", "e", "default", 0)), False),
    (choice(("a", "i")), choice(("a", "j")), True), (choice(("a", "i")), choice(("b", "i")), False),
    (choice(("a", "i")), choice(("a", "t")), False), (choice(("a", "i")), choice(("a", "i"), ("b", "i")), False),
    (choice(("a", "i"), fallback=("a", 0)), choice(("a", "j"), fallback=("a", 0)), True),
    (choice(("a", "i"), fallback=("a", 0)), choice(("a", "i"), fallback=("a", 1)), False),
    (choice(("a", "i"), fallback=("a", 0)), choice(("a", "i")), False),
    (choice(("a", "i"), ("b", "i"), fallback=("a", 0)), choice(("a", "i"), ("b", "i"), fallback=("b", 0)), False),
    (record(need("a", "i")), choice(("a", "i")), False), (("list", "e", 0, 0), record(), False),
]


def with_both(first, second):
    """A format whose names p and q have these definitions, and that reaches all names."""
    rows = {**INNER, "p": first, "q": second}
    rows["w"] = record(need("a", "p"), need("b", "q"), need("c", "x"), need("d", "y"))
    rows["x"] = choice(("a", "i"), ("b", "j"), ("c", "k"), ("d", "t"))
    rows["y"] = choice(("a", "u"), ("b", "e"), ("c", "f"))
    return Format("w", rows)


def greatest_relation(form):
    """Dict of the classes by the words of [33]: all pairs, without those that cannot be alike, until none is left."""
    names = reached(form)
    pairs = set(itertools.product(names, names))
    while True:
        left = {(one, other) for one, other in pairs if alike(form.of(one), form.of(other), pairs)}
        if left == pairs:
            return {name: min(other for other in names if (name, other) in pairs) for name in names}
        pairs = left


def alike(one, other, pairs):
    types = list(zip(types_of(one), types_of(other)))
    return without_types(one) == without_types(other) and all(pair in pairs for pair in types)


def without_types(definition):
    if definition[0] == "list":
        return definition[2:]
    if definition[0] in ("record", "choice"):
        return (definition[0], [(part[0], *part[2:]) for part in definition[1]], *definition[2:])
    return definition


class Classes(unittest.TestCase):
    def test_one_place_only(self):
        for first, second, expected in ROWS:
            form = with_both(first, second)
            with self.subTest(first=first, second=second):
                self.assertTrue(is_format(form))
                found = classes(form)
                self.assertEqual(sorted(found), reached(form))
                self.assertIs(found["p"] == found["q"], expected)
                self.assertEqual({name: found[name] for name in "ijktuef"}, dict(zip("ijktuef", "iikttee")))
                self.assertEqual(found, greatest_relation(form))

    def test_definitions_in_circles(self):
        rows = {one: record(may("n", other)) for one, other in zip("abcd", "bcad")}
        self.assertEqual(classes(Format("b", rows)), {"a": "a", "b": "a", "c": "a"})
        self.assertEqual(classes(Format("d", rows)), {"d": "d"})
        rows["d"] = choice(("x", "d"), ("y", "b"))
        self.assertEqual(classes(Format("d", rows)), {"a": "a", "b": "a", "c": "a", "d": "d"})
        # Where one of the circle has more than the others, each of them is different.
        rows["c"] = record(may("m", "a"), may("n", "a"))
        self.assertEqual(classes(Format("b", rows)), {"a": "a", "b": "b", "c": "c"})
        rows = {name: record(may("n", other)) for name, other in zip("abcdef", "bcdefa")}
        self.assertEqual(classes(Format("c", rows)), {name: "a" for name in "abcdef"})
        rows["b"] = rows["e"] = record(need("n", "c"))
        self.assertEqual(classes(Format("a", rows))["e"], "b")
        rows["b"], rows["e"] = record(need("n", "c")), record(need("n", "f"))
        self.assertEqual(classes(Format("c", rows)), {"a": "a", "b": "b", "c": "c", "d": "a", "e": "b", "f": "c"})

    def test_the_least_name_that_is_reached(self):
        rows = {"a": ("any",), "b": ("any",), "c": ("any",), "r": record(may("x", "c"), may("y", "b"))}
        self.assertEqual(classes(Format("r", rows)), {"b": "b", "c": "b", "r": "r"})
        self.assertEqual(classes(Format("a", rows)), {"a": "a"})

    def test_the_root_can_be_alike_to_others(self):
        rows = {"z": record(may("n", "y")), "y": record(may("n", "z"))}
        self.assertEqual(classes(Format("z", rows)), {"y": "y", "z": "y"})
        found = smaller_format(Format("z", rows))
        self.assertEqual((found.root, found.definitions), ("y", {"y": record(may("n", "y"))}))

    def test_random_formats(self):
        source = random.Random(149)
        many = 0
        for _ in range(600):
            form = doubled(source)
            with self.subTest(form=form.definitions):
                found = classes(form)
                self.assertEqual(found, greatest_relation(form))
                many += len(found) - len(set(found.values()))
        self.assertGreater(many, 300)


def doubled(source):
    """A format in which most definitions stand twice, with types of either."""
    form = random_format(source, source.randint(1, 5), KINDS[3:])
    rows = {}
    for name, definition in form.definitions.items():
        for copied in (name + "x", name + "y"):
            rows[copied] = with_types(source, definition)
    if source.random() < 0.3:
        rows[source.choice(sorted(rows))] = ("integer", 0, 0)
    return Format("d0" + source.choice("xy"), rows)


def with_types(source, definition):
    if definition[0] == "list":
        return ("list", definition[1] + source.choice("xy"), *definition[2:])
    if definition[0] in ("record", "choice"):
        parts = tuple((part[0], part[1] + source.choice("xy"), *part[2:]) for part in definition[1])
        return (definition[0], parts, *definition[2:])
    return definition


class Smaller(unittest.TestCase):
    def test_one(self):
        form = Format("r", {
            "r": record(("a", "l", "default", [{}]), may("b", "m"), need("c", "k")), "l": ("list", "p", 0, 2),
            "m": ("list", "q", 0, 2), "k": choice(("s", "j"), ("t", "i"), fallback=("t", 2)),
            "p": record(may("n", "q")), "q": record(may("n", "p")), "i": ("integer", 0, 3), "j": ("integer", 0, 3),
            "x": ("any",), "y": ("list", "r", 0, 1),
        })
        found = smaller_format(form)
        self.assertIs(type(found), Format)
        self.assertEqual(format_text(found), "\n".join([
            "root r", "i integer 0 3", "k choice s i, t i fallback t(2)", "l list p 0 2", "p record n p optional",
            "r record a l default [{}], b l optional, c k",
        ]))

    def test_it_reads_and_writes_as_the_format_does(self):
        source = random.Random(151)
        failures = 0
        for _ in range(150):
            form = doubled(source)
            found = smaller_format(form)
            self.assertTrue(is_same(form, found))
            small = [changed_format(source, form), looser_format(source, form)] if len(form.definitions) < 7 else []
            for other in [form, *small]:
                for value in Listing(other).up_to(other.root, 5)[:80]:
                    told = read_by(form, form.root, value)
                    failures += told[0] == "failure"
                    self.assertEqual(read_by(found, found.root, value), told)
                    self.assertIs(is_written(found, value), is_written(form, value))
        self.assertGreater(failures, 200)

    def test_failures_have_the_same_reasons_and_paths(self):
        form = Format("r", {
            "r": record(need("a", "l"), may("b", "m")), "l": ("list", "i", 0, 2), "m": ("list", "j", 0, 2),
            "i": choice(("s", "t")), "j": choice(("s", "u")), "t": ("text", 1), "u": ("text", 1),
        })
        found = smaller_format(form)
        self.assertEqual(found.names(), ["i", "l", "r", "t"])
        for value, reason, path in [
            ({"a": [("s", "aa")]}, "too long", ["a", 0, "$s"]),
            ({"a": [], "b": [("s", ""), ("v", 0)]}, "unknown tag", ["b", 1]),
            ({"b": []}, "missing field", ["a"]), ({"a": [], "b": [("s", "")] * 3}, "wrong length", ["b"]),
            ({"a": [], "b": 0}, "wrong kind", ["b"]),
        ]:
            self.assertEqual(read_by(form, "r", value), ("failure", reason, path))
            self.assertEqual(read_by(found, "r", value), ("failure", reason, path))

    def test_the_smaller_one_of_it_is_itself(self):
        source = random.Random(157)
        for _ in range(300):
            form = doubled(source)
            found = smaller_format(form)
            self.assertEqual(classes(found), {name: name for name in found.names()})
            self.assertTrue(is_format(found) or not is_format(form))
            again = smaller_format(found)
            self.assertEqual((again.root, again.definitions), (found.root, found.definitions))

    def test_great_formats(self):
        names = ["n%02d" % at for at in range(12)]
        ring = {name: ("list", names[(at + 1) % 12], 0, 9) for at, name in enumerate(names)}
        self.assertEqual(format_text(smaller_format(Format("n05", ring))), "root n00\nn00 list n00 0 9")
        ring["n11"] = ("list", "n00", 0, 8)
        self.assertEqual(len(classes(Format("n05", ring))), 12)
        self.assertEqual(smaller_format(Format("n05", ring)).definitions, ring)
        form = in_circles(["optional"] * 4, 0)
        self.assertEqual(classes(form), greatest_relation(form))
        common = common_format(form, in_circles(["optional"] * 4, 0))
        self.assertTrue(is_same(smaller_format(common), form))
        self.assertEqual(len(smaller_format(common).definitions), len(smaller_format(form).definitions))

    def test_arguments_stay(self):
        form = Format("r", {"r": record(("a", "i", "default", 0), may("b", "j")), "i": ("any",), "j": ("any",)})
        before = copy.deepcopy(form.definitions)
        smaller_format(form).definitions.clear()
        classes(form).clear()
        reached(form).clear()
        self.assertEqual(form.definitions, before)


if __name__ == "__main__":
    unittest.main()
