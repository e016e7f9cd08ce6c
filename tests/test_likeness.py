"""Point 32 and formatfit/likeness.py: formats that write the same values, and the least difference of others."""

import copy
import random
import unittest

from formatfit.compatibility import can_read
from formatfit.errors import TooLarge
from formatfit.formats import Format
from formatfit.likeness import is_same, smallest_difference
from formatfit.values import LARGEST_INTEGER, compare_values, depth_of, size_of
from formatfit.writing import is_format, is_written
from listing import Listing, changed_format, in_order, in_others, looser_format, random_format, sized
from listing import choice, in_circles, may, need, record

TYPES = {
    "any": ("any",), "i9": ("integer", 0, 9), "i5": ("integer", 3, 5), "t0": ("text", 0), "t2": ("text", 2),
    "none": record(need("a", "none")), "gone": ("list", "none", 1, 2), "nil": ("list", "none", 0, 9),
    "l": ("list", "i9", 0, 3), "l2": ("list", "i9", 0, 2), "l0": ("list", "t2", 0, 0),
}

# Two definitions, and the least value that only one of them writes, or None.
ROWS = [
    # The same.
    (("any",), ("any",), None), (("integer", 0, 9), ("integer", 0, 9), None), (("text", 2), ("text", 2), None),
    (("list", "i9", 1, 2), ("list", "i9", 1, 2), None), (record(), record(), None),
    (record(need("a", "i9")), record(("a", "i9", "default", 3)), None),
    (record(("a", "i9", "default", 4)), record(("a", "i9", "default", 3)), None),
    (choice(("a", "i9")), choice(("a", "i9"), fallback=("a", 3)), None),
    (choice(("a", "i9"), fallback=("a", 4)), choice(("a", "i9"), fallback=("a", 3)), None),
    # Types without values left out.
    (record(may("a", "none")), record(), None), (record(may("a", "none")), record(may("a", "gone")), None),
    (record(need("b", "i9"), may("c", "gone")), record(need("b", "i9")), None),
    (record(may("a", "none")), record(may("b", "none")), None),
    (choice(("a", "i9"), ("b", "none")), choice(("a", "i9")), None),
    (choice(("a", "i9"), ("b", "none")), choice(("a", "i9"), ("c", "gone")), None),
    (("list", "none", 0, 9), ("list", "i9", 0, 0), None), (("list", "none", 0, 9), ("list", "gone", 0, 2), None),
    (("list", "i9", 0, 0), ("list", "t2", 0, 0), None), (("list", "none", 1, 9), record(need("x", "gone")), None),
    (choice(("a", "none")), ("list", "none", 2, 3), None),
    (record(need("a", "none"), need("b", "i9")), choice(("a", "gone")), None),
    (("list", "nil", 0, 1), ("list", "l0", 0, 1), None),
    # One that writes nothing.
    (record(need("a", "none")), ("integer", 3, 9), 3), (("list", "none", 1, 1), ("any",), 0),
    (choice(("a", "gone")), record(), {}),
    # Integers and texts.
    (("integer", 0, 9), ("integer", 0, 8), 9), (("integer", 0, 9), ("integer", -2, 8), -1),
    (("integer", -1, 1), ("integer", -2, 3), 2), (("integer", 5, 6), ("integer", -5, -4), -4),
    (("integer", 5, 6), ("integer", 4, 6), 4), (("integer", 0, 0), ("integer", 1, 1), 0),
    (("integer", -3, 3), ("integer", -3, 4), 4), (("integer", -4, 3), ("integer", -3, 4), 4),
    (("integer", -4, 3), ("integer", -3, 3), -4),
    (("text", 0), ("text", 1), "a"), (("text", 9), ("text", 3), "aaaa"), (("text", 8), ("text", 9), "a" * 9),
    # Any.
    (("any",), ("integer", 0, 9), -1), (("any",), ("integer", -3, 3), 4), (("any",), ("integer", 1, 9), 0),
    (("any",), ("integer", -999999, 999999), LARGEST_INTEGER), (("any",), ("text", 9), 0),
    (("any",), ("list", "any", 0, 9), 0), (("any",), record(), 0), (("any",), choice(("a", "any")), 0),
    # Different kinds.
    (("integer", 0, 9), ("text", 3), 0), (("integer", 3, 9), ("text", 3), 3), (("text", 3), ("list", "i9", 0, 1), ""),
    (("list", "i9", 1, 2), ("text", 3), ""), (record(need("a", "i9")), ("list", "i9", 2, 2), {"a": 0}),
    (record(), ("list", "i9", 0, 2), []), (choice(("a", "i9")), record(need("a", "i9")), {"a": 0}),
    (choice(("a", "i9")), record(need("a", "i9"), need("b", "i9")), ("a", 0)),
    # Lists.
    (("list", "i9", 0, 3), ("list", "i9", 1, 3), []), (("list", "i9", 1, 3), ("list", "i9", 3, 3), [0]),
    (("list", "i9", 0, 3), ("list", "i9", 0, 2), [0, 0, 0]), (("list", "i5", 2, 3), ("list", "i5", 5, 5), [3, 3]),
    (("list", "i9", 0, 3), ("list", "i5", 0, 3), [0]), (("list", "i9", 2, 3), ("list", "i5", 2, 3), [0, 0]),
    (("list", "i5", 2, 3), ("list", "i9", 2, 3), [0, 0]), (("list", "l", 2, 3), ("list", "l2", 2, 3), [[], [0, 0, 0]]),
    (("list", "t0", 1, 9), ("list", "t2", 1, 9), ["a"]), (("list", "t0", 3, 9), ("list", "t2", 3, 9), ["", "", "a"]),
    (("list", "i9", 0, 3), ("list", "none", 0, 3), [0]), (("list", "i9", 0, 0), ("list", "none", 1, 3), []),
    # Records.
    (record(need("a", "i9")), record(), {}), (record(may("a", "i9")), record(), {"a": 0}),
    (record(may("a", "i9")), record(need("a", "i9")), {}),
    (record(may("a", "i9")), record(("a", "i9", "default", 0)), {}),
    (record(need("a", "i9")), record(need("a", "i5")), {"a": 0}),
    (record(may("a", "i9")), record(may("a", "i5")), {"a": 0}),
    (record(may("a", "t0")), record(may("a", "t2")), {"a": "a"}),
    (record(need("a", "i9")), record(need("b", "i9")), {"a": 0}),
    (record(need("b", "i9")), record(need("a", "t2")), {"a": ""}),
    (record(need("a", "i9")), record(need("a", "t2")), {"a": 0}),
    (record(need("a", "i9"), may("b", "i9")), record(need("a", "i9"), need("b", "i9")), {"a": 0}),
    (record(may("a", "i9"), may("b", "l")), record(may("a", "i9"), may("b", "l2")), {"b": [0, 0, 0]}),
    (record(need("a", "i9"), need("b", "i5")), record(need("a", "i9"), need("b", "i9")), {"a": 0, "b": 0}),
    (record(may("a", "i9")), record(may("a", "none")), {"a": 0}),
    (record(need("a", "none")), record(may("a", "none")), {}),
    (record(may("a", "none"), may("b", "i5")), record(), {"b": 3}),
    (record(need("a", "any")), record(need("a", "i9")), {"a": -1}),
    # Choices.
    (choice(("a", "i9")), choice(("b", "i9")), ("a", 0)),
    (choice(("a", "i9"), ("b", "i5")), choice(("a", "i9")), ("b", 3)),
    (choice(("a", "i9"), ("b", "t0")), choice(("a", "i9"), ("c", "i9")), ("b", "")),
    (choice(("a", "i9"), ("b", "t0")), choice(("a", "i5"), ("b", "t2")), ("a", 0)),
    (choice(("a", "i9"), ("b", "t0")), choice(("a", "i9"), ("b", "t2")), ("b", "a")),
    (choice(("a", "none")), choice(("a", "i9")), ("a", 0)),
    (choice(("a", "i9"), fallback=("a", 0)), choice(("a", "i9"), ("b", "i9")), ("b", 0)),
    (choice(("a", "l"), ("b", "l2")), choice(("a", "l2"), ("b", "l")), ("a", [0, 0, 0])),
]


def made(definition):
    return Format("root", {**TYPES, "root": definition})


class Differences(unittest.TestCase):
    def check(self, first, second, difference):
        for one, other in ((first, second), (second, first)):
            self.assertIs(is_same(one, other), difference is None)
            found = smallest_difference(one, other)
            self.assertEqual(found, difference)
            self.assertIs(type(found), type(difference))
        if difference is not None:
            self.assertNotEqual(is_written(first, difference), is_written(second, difference))

    def test_rows(self):
        for first, second, difference in ROWS:
            with self.subTest(first=first, second=second):
                self.assertTrue(is_format(made(first)) and is_format(made(second)))
                self.check(made(first), made(second), difference)

    def test_rows_within_others(self):
        for first, second, difference in ROWS:
            for (one, wrap), (other, _) in zip(in_others(first, TYPES), in_others(second, TYPES)):
                with self.subTest(first=first, second=second, outer=one.of("root")):
                    self.check(one, other, None if difference is None else wrap(difference))

    def test_each_is_the_same_as_itself(self):
        for first, second, _ in ROWS:
            for definition in (first, second):
                self.check(made(definition), made(definition), None)

    def test_other_names_and_further_definitions(self):
        first = Format("t", {"t": record(may("l", "t"), need("v", "i")), "i": ("integer", 0, 5), "more": ("any",)})
        second = Format("a", {"a": record(may("l", "b"), need("v", "x")), "b": record(may("l", "a"), need("v", "y")),
            "x": ("integer", 0, 5), "y": ("integer", 0, 5), "t": ("text", 3), "i": ("text", 9)})
        self.check(first, second, None)
        second.definitions["y"] = ("integer", 0, 6)
        self.check(first, second, {"l": {"v": 6}, "v": 0})
        second.definitions["x"] = ("integer", 1, 6)
        self.check(first, second, {"v": 0})

    def test_rings(self):
        def ring(many, last):
            names = ["r%d" % at for at in range(many)]
            rows = {name: record(may("n", names[(at + 1) % many])) for at, name in enumerate(names)}
            return Format("r0", {**rows, names[-1]: record(may("n", "r0"), *last), "i": ("integer", 4, 9)})

        self.check(ring(2, []), ring(3, []), None)
        self.check(ring(1, []), ring(12 - 1, []), None)
        self.check(ring(2, [may("z", "i")]), ring(4, []), {"n": {"z": 4}})
        self.check(ring(2, [may("z", "i")]), ring(4, [may("z", "i")]), {"n": {"z": 4}})
        self.check(ring(3, [may("z", "r0")]), ring(3, []), {"n": {"n": {"z": {}}}})
        # Values alone have an end: what never ends is not written by any of both.
        endless = Format("a", {"a": record(need("n", "a"))})
        self.check(endless, Format("b", {"b": record(need("n", "c")), "c": record(need("n", "b"))}), None)
        self.check(endless, Format("b", {"b": record(need("n", "c")), "c": record(may("n", "b"))}), {"n": {}})


class BesideAllValues(unittest.TestCase):
    def values(self, form):
        """The values of a format up to a size that is returned with them."""
        listing = Listing(form)
        values = []
        for size in range(1, 7):
            more = in_order(listing.of_size(form.root, size))
            if len(values) + len(more) > 1000:
                return values, size - 1
            values.extend(more)
        return values, 6

    def test_random_formats(self):
        source = random.Random(137)
        told = {"same": 0, "differ": 0, "far": 0}
        kinds = ["integer", "text", "list", "record", "record", "choice"]
        for _ in range(500):
            first = random_format(source, source.randint(1, 5), kinds)
            second = changed_format(source, first) if source.random() < 0.6 else looser_format(source, first)
            with self.subTest(first=first.definitions, second=second.definitions):
                told[self.check(first, second)] += 1
        self.assertGreater(min(told["same"], told["differ"]), 150)

    def check(self, first, second):
        (values, size), (others, other_size) = self.values(first), self.values(second)
        most = min(size, other_size)
        only = [value for value in values if not is_written(second, value)]
        only += [value for value in others if not is_written(first, value)]
        only = in_order([value for value in only if size_of(value) <= most])
        found = smallest_difference(first, second)
        self.assertEqual(smallest_difference(second, first), found)
        self.assertIs(is_same(first, second), found is None)
        if "any" in [definition[0] for form in (first, second) for definition in form.definitions.values()]:
            if only:
                self.assertLessEqual(compare_values(found, only[0]), 0)
        elif only:
            self.assertEqual(found, only[0])
        elif found is not None:
            self.assertGreater(size_of(found), most)
        if found is None:
            return "same"
        self.assertNotEqual(is_written(first, found), is_written(second, found))
        return "differ" if only else "far"

    def test_the_same_can_read_each_other_without_defaults_and_fallbacks(self):
        source = random.Random(139)
        for _ in range(300):
            first = random_format(source, source.randint(1, 4))
            second = changed_format(source, first)
            if is_same(first, second):
                self.assertTrue(can_read(first, second) and can_read(second, first))


class Sizes(unittest.TestCase):
    def test_at_the_bound_and_above(self):
        for size in (299, 300, 301, 302):
            rows = sized(size).definitions
            for first, second, whole in [
                (rows["a"], ("list", "none", 1, 1), size), (record(), record(may("x", "a")), size + 1),
                (choice(("k", "i")), choice(("f", "a"), ("k", "i")), size + 1),
                (("list", "a", 0, 0), ("list", "a", 0, 1), size + 1), (("list", "a", 0, 1), ("integer", 0, 0), 1),
                (("integer", 3, 3), rows["a"], 1),
            ]:
                inner = {**rows, "none": record(need("x", "none"))}
                one, other = Format("root", {**inner, "root": first}), Format("root", {**inner, "root": second})
                with self.subTest(first=first, second=second):
                    for left, right in ((one, other), (other, one)):
                        self.assertIs(is_same(left, right), False)
                        if whole > 300:
                            self.assertRaises(TooLarge, smallest_difference, left, right)
                        else:
                            self.assertEqual(size_of(smallest_difference(left, right)), whole)

    def test_the_same_with_large_values(self):
        for size in (300, 301):
            self.assertIs(is_same(sized(size), sized(size)), True)
            self.assertIsNone(smallest_difference(sized(size), sized(size)))
            self.assertIs(is_same(sized(size), sized(302)), False)


class GreatFormats(unittest.TestCase):
    def test_circles(self):
        for presences in (["optional"] * 4, ["required", "optional", "optional", "optional"]):
            form = in_circles(presences, 0)
            self.assertIs(is_same(form, form), True)
            for name in form.names():
                other = Format("n00", {**form.definitions, name: ("list", "n00", 0, 8)})
                found = smallest_difference(form, other)
                self.assertIs(is_same(form, other), found is None)
                if found is not None:
                    self.assertNotEqual(is_written(form, found), is_written(other, found))

    def test_deep(self):
        def ring(many, longest):
            names = ["n%02d" % at for at in range(many)]
            rows = {name: ("list", names[(at + 1) % many], 0, 9) for at, name in enumerate(names)}
            return Format("n00", {**rows, names[-1]: ("list", "n00", 0, longest)})

        self.assertIs(is_same(ring(11, 9), ring(12, 9)), True)
        # One has the shorter list eleven deep, and the other one twelve deep.
        found = smallest_difference(ring(11, 0), ring(12, 0))
        self.assertEqual(depth_of(found), 12)
        found = smallest_difference(ring(11, 8), ring(12, 8))
        self.assertEqual((depth_of(found), size_of(found)), (12, 11 + 9))

    def test_arguments_stay_and_what_is_returned_is_new(self):
        first, second = made(("list", "i9", 2, 3)), made(("list", "i5", 2, 3))
        before = copy.deepcopy([first.definitions, second.definitions])
        smallest_difference(first, second).append(7)
        self.assertEqual(smallest_difference(first, second), [0, 0])
        is_same(first, second)
        self.assertEqual([first.definitions, second.definitions], before)

    def test_names_are_ascending(self):
        first = made(record(may("a", "i9"), need("b", "i9"), need("c", "i9")))
        second = made(record(need("b", "i9"), need("c", "i9")))
        self.assertEqual(list(smallest_difference(first, second)), ["a", "b", "c"])


if __name__ == "__main__":
    unittest.main()
