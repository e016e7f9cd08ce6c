"""Point 23 and formatfit/compatibility.py: whether a reader can read a writer, and the least failure."""

import copy
import random
import unittest

from formatfit.compatibility import can_read, smallest_failure
from formatfit.errors import TooLarge
from formatfit.formats import Format
from formatfit.reading import read_by
from formatfit.values import LARGEST_INTEGER, compare_values, depth_of, size_of
from formatfit.writing import is_format, is_written
from listing import Listing, changed_format, plain_told, random_format, sized
from listing import choice, in_circles, may, need, record

TYPES = {
    "any": ("any",), "i0": ("integer", 0, 0), "i9": ("integer", 0, 9), "neg": ("integer", -9, -4), "t0": ("text", 0),
    "t2": ("text", 2), "none": ("record", (("a", "none", "required"),)), "unit": ("record", ()),
    "i5": ("integer", 0, 5), "l9": ("list", "i9", 1, 4), "ln": ("list", "none", 0, 9),
}


def made(definition):
    return Format("root", {**TYPES, "root": definition})


# Reader, writer, and the least failure or None.
PAIRS = [
    # Integers.
    (("integer", 0, 9), ("integer", 0, 9), None), (("integer", -5, 9), ("integer", 0, 8), None),
    (("integer", 0, 9), ("integer", 0, 10), 10), (("integer", 0, 9), ("integer", -1, 9), -1),
    (("integer", 0, 9), ("integer", -10, 12), -1), (("integer", -9, 3), ("integer", -12, 9), 4),
    (("integer", -3, 3), ("integer", -9, 9), 4), (("integer", -3, 4), ("integer", -9, 9), -4),
    (("integer", 5, 6), ("integer", 0, 9), 0), (("integer", 5, 6), ("integer", -9, -7), -7),
    (("integer", 5, 6), ("integer", 7, 9), 7), (("integer", 0, 0), ("integer", 0, 5), 1),
    (("integer", 1, 1), ("integer", 1, 1), None), (("integer", -999999, 999999), ("integer", -999999, 999999), None),
    (("integer", -999998, 999999), ("integer", -999999, 999999), -999999),
    # Texts.
    (("text", 3), ("text", 3), None), (("text", 9), ("text", 0), None), (("text", 2), ("text", 3), "aaa"),
    (("text", 0), ("text", 9), "a"), (("text", 8), ("text", 9), "aaaaaaaaa"),
    # Any.
    (("any",), ("any",), None), (("any",), ("integer", 0, 1), None), (("any",), ("list", "none", 1, 1), None),
    (("any",), record(need("a", "any")), None), (("integer", 0, 0), ("any",), 1), (("integer", 1, 5), ("any",), 0),
    (("integer", -5, 5), ("any",), 6), (("integer", -5, 6), ("any",), -6),
    (("integer", -999999, 999999), ("any",), LARGEST_INTEGER),
    (("integer", -3, -1), ("any",), 0), (("text", 9), ("any",), 0), (("list", "any", 0, 9), ("any",), 0),
    (("record", ()), ("any",), 0), (choice(("a", "any"), fallback=("a", 0)), ("any",), 0),
    # Other kinds.
    (("integer", 0, 9), ("text", 3), ""), (("text", 3), ("integer", 3, 9), 3),
    (("list", "any", 0, 9), record(may("a", "i9")), {}),
    (record(), ("list", "neg", 2, 4), [-4, -4]), (record(), choice(("b", "t2"), ("c", "i0")), ("b", "")),
    (choice(("a", "any")), record(need("a", "t2"), need("b", "neg")), {"a": "", "b": -4}),
    (("text", 0), ("list", "none", 1, 1), None),
    (("integer", 0, 0), choice(("a", "none")), None), (("text", 1), ("record", ()), {}),
    # Lists.
    (("list", "i9", 0, 9), ("list", "i9", 0, 9), None), (("list", "i9", 1, 4), ("list", "i9", 2, 3), None),
    (("list", "i9", 1, 9), ("list", "i9", 0, 9), []), (("list", "i9", 2, 9), ("list", "i9", 1, 9), [0]),
    (("list", "i9", 0, 2), ("list", "i9", 0, 3), [0, 0, 0]), (("list", "i9", 0, 2), ("list", "neg", 4, 4), [-4] * 4),
    (("list", "i9", 5, 6), ("list", "i9", 1, 9), [0]), (("list", "i9", 5, 6), ("list", "i9", 7, 9), [0] * 7),
    (("list", "i5", 0, 9), ("list", "i9", 0, 9), [6]), (("list", "i5", 0, 9), ("list", "i9", 3, 9), [0, 0, 6]),
    (("list", "i5", 0, 9), ("list", "i9", 0, 0), None), (("list", "i5", 0, 0), ("list", "i9", 0, 1), [0]),
    (("list", "i5", 0, 0), ("list", "i9", 0, 0), None), (("list", "t0", 0, 9), ("list", "t2", 2, 2), ["", "a"]),
    (("list", "t0", 0, 2), ("list", "t2", 0, 3), ["a"]), (("list", "t0", 0, 1), ("list", "t2", 1, 3), ["", ""]),
    (("list", "t0", 0, 1), ("list", "t2", 2, 3), ["", ""]), (("list", "t0", 0, 9), ("list", "none", 0, 9), None),
    (("list", "t0", 0, 0), ("list", "none", 0, 9), None), (("list", "t0", 1, 9), ("list", "none", 0, 9), []),
    (("list", "t0", 2, 3), ("list", "none", 1, 9), None), (("list", "neg", 0, 2), ("list", "i9", 0, 3), [0]),
    (("list", "neg", 0, 9), ("list", "i9", 4, 9), [0] * 4), (("list", "none", 0, 9), ("list", "i9", 0, 9), [0]),
    (("list", "any", 0, 9), ("list", "none", 1, 1), None),
    # Records.
    (record(), record(), None), (record(), record(need("a", "i9"), may("b", "t2")), None),
    (record(need("a", "i9")), record(need("a", "i9")), None), (record(need("a", "i9")), record(may("a", "i9")), {}),
    (record(need("a", "i9")), record(), {}), (record(may("a", "i9")), record(), None),
    (record(("a", "i9", "default", 1)), record(), None),
    (record(("a", "i9", "default", 1)), record(may("a", "i9")), None),
    (record(need("a", "i9")), record(("a", "i9", "default", 1)), None),
    (record(need("a", "i9")), record(may("a", "i9"), need("b", "t2")), {"b": ""}),
    (record(may("a", "i5")), record(may("a", "i9")), {"a": 6}), (record(need("a", "i5")), record(may("a", "i9")), {}),
    (record(("a", "i5", "default", 0)), record(may("a", "i9"), need("b", "neg")), {"a": 6, "b": -4}),
    (record(may("a", "i5"), may("b", "t0")), record(need("a", "i9"), need("b", "t2")), {"a": 6, "b": ""}),
    (record(may("a", "t0"), may("b", "i5")), record(need("a", "t2"), need("b", "i9")), {"a": "", "b": 6}),
    (record(may("a", "i5"), may("b", "i5")), record(need("a", "i9"), need("b", "i9")), {"a": 0, "b": 6}),
    (record(may("a", "i5"), may("b", "i5")), record(may("a", "i9"), may("b", "i9")), {"a": 6}),
    (record(may("b", "i5")), record(may("a", "i9"), may("b", "i9"), may("c", "t2")), {"b": 6}),
    (record(may("a", "t2")), record(may("a", "none"), may("b", "i9")), None),
    (record(need("z", "i9")), record(need("a", "none")), None),
    (record(may("a", "i5")), record(need("a", "i9"), need("b", "none")), None),
    (record(need("a", "i9")), record(may("a", "none")), {}),
    (record(may("a", "none")), record(may("a", "i9")), {"a": 0}),
    # Choices.
    (choice(("a", "i9")), choice(("a", "i9")), None), (choice(("a", "i9"), ("b", "t2")), choice(("a", "i9")), None),
    (choice(("a", "i9")), choice(("a", "i9"), ("b", "t2")), ("b", "")),
    (choice(("a", "i9"), fallback=("a", 0)), choice(("a", "i9"), ("b", "t2")), None),
    (choice(("a", "i5"), fallback=("a", 0)), choice(("a", "i9"), ("b", "t2")), ("a", 6)),
    (choice(("a", "i5")), choice(("a", "i9"), ("b", "t2")), ("a", 6)),
    (choice(("b", "t0")), choice(("a", "i9"), ("b", "t2")), ("a", 0)),
    (choice(("z", "i5")), choice(("a", "l9"), ("b", "t2")), ("b", "")),
    (choice(("a", "i9")), choice(("a", "i9"), ("b", "none")), None),
    (choice(("a", "i9"), ("b", "i0")), choice(("a", "none"), ("b", "i0")), None),
    (choice(("a", "none")), choice(("a", "i9")), ("a", 0)),
    (choice(("a", "t0"), ("b", "i5")), choice(("a", "t2"), ("b", "i9")), ("b", 6)),
]


class OneByOne(unittest.TestCase):
    def test_the_formats(self):
        for reading, writing, _ in PAIRS:
            self.assertTrue(is_format(made(reading)), reading)
            self.assertTrue(is_format(made(writing)), writing)

    def check(self, reader, writer, failure):
        self.assertIs(can_read(reader, writer), failure is None)
        found = smallest_failure(reader, writer)
        self.assertEqual(found, failure)
        self.assertIs(type(found), type(failure))
        if failure is not None:
            self.assertTrue(is_written(writer, failure))
            self.assertEqual(plain_told(reader, reader.root, failure)[0], "failure")

    def test_pairs(self):
        for reading, writing, failure in PAIRS:
            with self.subTest(reader=reading, writer=writing):
                self.check(made(reading), made(writing), failure)

    def test_pairs_within_others(self):
        rows = [
            (("list", "in", 0, 9), lambda value: [value]), (("list", "in", 1, 1), lambda value: [value]),
            (record(may("f", "in")), lambda value: {"f": value}), (record(need("f", "in")), lambda value: {"f": value}),
            (choice(("t", "in")), lambda value: ("t", value)),
        ]
        for reading, writing, failure in PAIRS:
            for outer, wrap in rows:
                with self.subTest(reader=reading, writer=writing, outer=outer):
                    reader, writer = (
                        Format("root", {**TYPES, "in": inner, "root": outer}) for inner in (reading, writing)
                    )
                    self.check(reader, writer, None if failure is None else wrap(failure))

    def test_a_format_reads_itself(self):
        for reading, writing, _ in PAIRS:
            for definition in (reading, writing):
                self.check(made(definition), made(definition), None)

    def test_names_do_not_matter(self):
        reader = Format("z", {"z": ("list", "y", 0, 2), "y": ("integer", 0, 5)})
        writer = Format("a", {"a": ("list", "b", 1, 2), "b": ("integer", 3, 7), "z": ("text", 9), "y": ("text", 9)})
        self.check(reader, writer, [6])
        self.check(writer, reader, [])

    def test_a_name_that_is_not_reached_does_not_matter(self):
        reader = Format("a", {"a": ("integer", 0, 5), "b": ("integer", 0, 0)})
        writer = Format("a", {"a": ("integer", 0, 5), "b": ("any",)})
        self.check(reader, writer, None)

    def test_definitions_that_use_themselves(self):
        def tree(most, leaf):
            return Format("t", {"t": choice(("b", "n"), ("l", "i")), "n": ("list", "t", 1, most),
                "i": ("integer", 0, leaf)})

        self.check(tree(2, 5), tree(2, 5), None)
        self.check(tree(2, 5), tree(2, 6), ("l", 6))
        self.check(tree(2, 5), tree(3, 5), ("b", [("l", 0)] * 3))
        self.check(tree(3, 6), tree(2, 5), None)
        # A writer all of whose values have no end writes nothing, whatever the reader.
        self.check(tree(2, 5), Format("t", {"t": choice(("b", "n")), "n": ("list", "t", 1, 2)}), None)
        chain = Format("c", {"c": record(may("next", "c"), need("v", "i")), "i": ("integer", 0, 5)})
        wider = Format("c", {"c": record(may("next", "d"), need("v", "i")), "i": ("integer", 0, 5),
            "j": ("integer", 0, 6),
                             "d": record(may("next", "e"), need("v", "i")),
                             "e": record(may("next", "c"), need("v", "j"))})
        self.check(wider, chain, None)
        self.check(chain, wider, {"next": {"next": {"v": 6}, "v": 0}, "v": 0})


class BesideAllValues(unittest.TestCase):
    SIZE = 6

    def check(self, reader, writer):
        values = Listing(writer).up_to(writer.root, self.SIZE if len(writer.definitions) < 4 else self.SIZE - 1)[:4000]
        first = next((value for value in values if read_by(reader, reader.root, value)[0] == "failure"), None)
        found = smallest_failure(reader, writer)
        self.assertIs(can_read(reader, writer), found is None)
        if first is not None:
            self.assertEqual(found, first)
        elif found is not None:
            self.assertTrue(is_written(writer, found))
            self.assertEqual(plain_told(reader, reader.root, found)[0], "failure")
            if values:
                self.assertLess(compare_values(values[-1], found), 0)

    def test_random_formats(self):
        source = random.Random(41)
        for _ in range(250):
            writer = random_format(source, source.randint(1, 5))
            reader = changed_format(source, writer) if source.random() < 0.7 else random_format(source,
                source.randint(1, 4))
            with self.subTest(reader=reader.definitions, writer=writer.definitions):
                self.check(reader, writer)
                self.check(writer, reader)
                self.check(writer, writer)


def with_leaf(form, leaf):
    return Format(form.root, {**form.definitions, "leaf": leaf})


class Sizes(unittest.TestCase):
    def test_at_the_bound_and_above(self):
        writer = sized(300)
        reader = Format("a", {"a": ("integer", 0, 0)})
        self.assertEqual(size_of(smallest_failure(reader, writer)), 300)
        for size in (301, 302):
            self.assertRaises(TooLarge, smallest_failure, reader, sized(size))
            self.assertIs(can_read(reader, sized(size)), False)

    def test_deep_within_lists(self):
        for size, many in ((299, 300), (300, 301)):
            rows = sized(size).definitions
            writer = Format("o", {**rows, "o": ("list", "a", 0, 2), "i": ("integer", 0, 5)})
            reader = Format("o", {**rows, "o": ("list", "a", 0, 2), "i": ("integer", 0, 4)})
            self.assertIs(can_read(reader, writer), False)
            if many > 300:
                self.assertRaises(TooLarge, smallest_failure, reader, writer)
            else:
                failure = smallest_failure(reader, writer)
                self.assertEqual(size_of(failure), 300)
                told = plain_told(reader, "o", failure)
                self.assertEqual(told[:2], ("failure", "out of range"))
                self.assertEqual(sum(part == 5 for part in numbers(failure)), 1)
                # Each integer could be the wrong one; the last one makes the least of these lists.
                self.assertEqual(told[2], [0, "d", "b", 1, 7])

    def test_a_large_failure_beside_a_small_least_value(self):
        writer = Format("o", {**sized(300).definitions, "o": ("list", "a", 0, 1)})
        reader = Format("o", {"o": ("list", "a", 0, 0), "a": ("any",)})
        self.assertRaises(TooLarge, smallest_failure, reader, writer)
        self.assertIs(can_read(reader, writer), False)
        self.assertIsNone(smallest_failure(writer, writer))


def numbers(value):
    if isinstance(value, int):
        return [value]
    if isinstance(value, dict):
        value = list(value.values())
    return [number for part in value for number in numbers(part)] if isinstance(value, list) else []


def ring(many, letter, extra, leaf):
    """Records in a ring, of which one has a further field."""
    names = [letter + str(at) for at in range(many)]
    rows = {"leaf": leaf}
    for at, name in enumerate(names):
        fields = [may("next", names[(at + 1) % many])]
        if at == extra:
            fields.insert(0, may("leaf", "leaf"))
        rows[name] = ("record", tuple(fields))
    return Format(names[0], rows)


class GreatFormats(unittest.TestCase):
    def test_a_failure_that_only_one_of_many_pairs_has(self):
        # 11 and 10 definitions: the pair of the two with a leaf is met first some hundred deep.
        writer, reader = ring(11, "w", 10, ("integer", 0, 5)), ring(10, "r", 8, ("integer", 0, 4))
        failure = smallest_failure(reader, writer)
        depth = next(at for at in range(200) if at % 11 == 10 and at % 10 == 8)
        self.assertEqual(depth, 98)
        expected = {"leaf": 5}
        for _ in range(depth):
            expected = {"next": expected}
        self.assertEqual(failure, expected)
        self.assertEqual(depth_of(failure), 99)
        self.assertIs(can_read(reader, writer), False)
        self.assertIs(can_read(writer, reader), True)

    def test_lists_of_nine_in_circles(self):
        names = ["n%02d" % at for at in range(12)]
        for shortest, end in ((0, ("integer", 0, 9)), (9, ("integer", 0, 9)), (1, ("text", 9))):
            rows = {name: ("list", names[(at + 1) % 12], shortest, 9) for at, name in enumerate(names)}
            rows["n11"] = end
            writer = Format("n00", rows)
            smaller = Format("n00", {**rows, "n11": (*end[:-1], 8)})
            self.assertTrue(can_read(writer, smaller))
            self.assertFalse(can_read(smaller, writer))
            if shortest == 9:
                self.assertRaises(TooLarge, smallest_failure, smaller, writer)
            else:
                self.assertEqual(depth_of(smallest_failure(smaller, writer)), 11)
            rows["n11"] = ("list", "n00", shortest, 9)
            endless = Format("n00", rows)
            self.assertEqual(can_read(Format("a", {"a": ("integer", 0, 0)}), endless), shortest > 0)

    def test_four_of_each_in_circles(self):
        form = in_circles(["optional", "optional", "required", "optional"], 0)
        self.assertTrue(can_read(form, form))
        for name in form.names():
            other = Format("n00", {**form.definitions, name: ("list", "n00", 0, 8)})
            for reader, writer in ((form, other), (other, form)):
                failure = smallest_failure(reader, writer)
                self.assertIs(can_read(reader, writer), failure is None)
                if failure is not None:
                    self.assertTrue(is_written(writer, failure))
                    self.assertEqual(read_by(reader, "n00", failure)[0], "failure")

    def test_arguments_stay(self):
        reader, writer = sized(280), sized(281)
        before = copy.deepcopy([reader.definitions, writer.definitions])
        smallest_failure(reader, writer)
        can_read(reader, writer)
        self.assertEqual([reader.definitions, writer.definitions], before)


if __name__ == "__main__":
    unittest.main()
