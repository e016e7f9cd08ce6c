"""Point 27 and formatfit/sources.py: the least value that a writer writes and a reader reads as a value."""

import copy
import unittest

from formatfit.compatibility import can_read
from formatfit.errors import CannotRead, TooLarge
from formatfit.formats import Format
from formatfit.least import least_value
from formatfit.sources import smallest_source
from formatfit.value_text import format_value
from formatfit.values import size_of
from formatfit.writing import is_format, is_written
from listing import Listing, all_read, in_others, lossy_pairs, plain_read, sized
from listing import choice, in_circles, may, need, record

TYPES = {
    "any": ("any",), "i0": ("integer", 0, 0), "i9": ("integer", 0, 9), "i5": ("integer", 3, 5), "t2": ("text", 2),
    "none": record(need("a", "none")), "gone": ("list", "none", 1, 2), "l": ("list", "i9", 0, 3),
    "drop": record(need("x", "i9")),
    "rich": record(need("x", "i9"), need("y", "i5"), may("z", "i9")),
}

HAVING = record(("a", "i9", "default", 7))
SAFE = choice(("a", "i9"), fallback=("a", 7))

# Reader, writer, what is read, and its least source or None.
ROWS = [
    # Read as it is.
    (("any",), ("any",), {"a": [1, "b"]}, {"a": [1, "b"]}), (("any",), ("any",), 1000000, 1000000),
    (("any",), ("integer", 0, 5), 5, 5), (("any",), ("integer", 0, 5), 6, None),
    (("any",), ("integer", 0, 5), "", None),
    (("any",), record(may("a", "i9")), {"a": 5}, {"a": 5}), (("any",), record(may("a", "i9")), {"a": 10}, None),
    (("any",), record(may("a", "i9")), {"b": 5}, None),
    (("any",), choice(("a", "i9"), fallback=("a", 1)), ("b", 1), None),
    (("integer", -9, 9), ("integer", 0, 5), 0, 0), (("integer", -9, 9), ("integer", 0, 5), 5, 5),
    (("integer", -9, 9), ("integer", 0, 5), 6, None), (("integer", -9, 9), ("integer", 0, 5), -1, None),
    (("integer", -9, 9), ("integer", 0, 5), 10, None), (("integer", -9, 9), ("integer", 0, 5), "", None),
    (("integer", -9, 9), ("integer", 0, 5), ("a", 0), None), (("integer", -9, 9), ("integer", 0, 5), [], None),
    (("text", 4), ("text", 2), "zz", "zz"), (("text", 4), ("text", 2), "", ""), (("text", 4), ("text", 2), "zzz", None),
    (("text", 4), ("text", 2), 0, None),
    # Lists.
    (("list", "i9", 0, 9), ("list", "i5", 1, 3), [3, 5], [3, 5]),
    (("list", "i9", 0, 9), ("list", "i5", 1, 3), [], None),
    (("list", "i9", 0, 9), ("list", "i5", 1, 3), [3] * 4, None),
    (("list", "i9", 0, 9), ("list", "i5", 1, 3), [3, 6], None),
    (("list", "i9", 0, 9), ("list", "i5", 1, 3), {"a": 3}, None),
    (("list", "i9", 0, 9), ("list", "none", 0, 3), [], []), (("list", "i9", 0, 9), ("list", "none", 0, 3), [1], None),
    (("list", "drop", 0, 9), ("list", "rich", 1, 3), [{"x": 1}, {"x": 0}], [{"x": 1, "y": 3}, {"x": 0, "y": 3}]),
    # Fields that are dropped.
    (record(), record(), {}, {}), (record(), record(), {"a": 0}, None), (record(), record(), [], None),
    (record(), record(may("a", "i9")), {}, {}), (record(), record(need("a", "i5")), {}, {"a": 3}),
    (record(), record(("a", "i5", "default", 4)), {}, {"a": 3}),
    (record(), record(may("a", "none"), need("b", "t2"), may("c", "i9")), {}, {"b": ""}),
    (record(need("b", "i9")), record(need("a", "l"), need("b", "i9"), need("c", "any")), {"b": 2},
        {"a": [], "b": 2, "c": 0}),
    (record(need("b", "i9")), record(need("a", "l"), need("b", "i9")), {"a": [], "b": 2}, None),
    (record(need("b", "i9")), record(need("a", "l"), need("b", "i9")), {}, None),
    # Fields of both.
    (record(need("a", "i9")), record(need("a", "i5")), {"a": 3}, {"a": 3}),
    (record(need("a", "i9")), record(need("a", "i5")), {"a": 2}, None),
    (record(may("a", "i9")), record(may("a", "i9")), {}, {}),
    (record(may("a", "i9")), record(may("a", "i9")), {"a": 7}, {"a": 7}),
    (record(may("a", "i9")), record(need("a", "i9")), {}, None),
    (record(may("a", "i9")), record(may("a", "none")), {}, {}),
    (record(may("a", "i9")), record(may("a", "none")), {"a": 0}, None),
    # No pair is met where the writer's type has no values, of whatever kind it is.
    (record(may("a", "drop")), record(may("a", "gone")), {"a": []}, None),
    (record(may("a", "drop")), record(may("a", "gone")), {"a": [{"a": 0}]}, None),
    (record(may("a", "l")), record(may("a", "none")), {"a": {"a": 0}}, None),
    (choice(("a", "l"), ("b", "i9")), choice(("a", "none"), ("b", "i9")), ("a", {"a": 0}), None),
    (record(need("a", "i9")), record(("a", "i9", "default", 2)), {"a": 2}, {"a": 2}),
    # Fields of the reader alone.
    (record(may("a", "i9")), record(), {}, {}), (record(may("a", "i9")), record(), {"a": 0}, None),
    (HAVING, record(), {"a": 7}, {}), (HAVING, record(), {"a": 6}, None), (HAVING, record(), {}, None),
    (HAVING, record(need("b", "i5")), {"a": 7}, {"b": 3}),
    # Fields that are optional for the writer and have a default.
    (HAVING, record(may("a", "i9")), {"a": 7}, {}), (HAVING, record(may("a", "i9")), {"a": 6}, {"a": 6}),
    (HAVING, record(may("a", "i5")), {"a": 7}, {}), (HAVING, record(may("a", "i5")), {"a": 6}, None),
    (HAVING, record(may("a", "i9")), {}, None), (HAVING, record(may("a", "none")), {"a": 7}, {}),
    (HAVING, record(need("a", "i9")), {"a": 7}, {"a": 7}), (HAVING, record(need("a", "i5")), {"a": 7}, None),
    (HAVING, record(("a", "i9", "default", 7)), {"a": 7}, {"a": 7}),
    (record(("a", "l", "default", [1, 2])), record(may("a", "l")), {"a": [1, 2]}, {}),
    (record(("a", "l", "default", [1, 2])), record(may("a", "l")), {"a": [1]}, {"a": [1]}),
    (record(("a", "drop", "default", {"x": 2})), record(may("a", "rich")), {"a": {"x": 2}}, {}),
    (record(("a", "drop", "default", {"x": 2})), record(may("a", "rich")), {"a": {"x": 3}}, {"a": {"x": 3, "y": 3}}),
    # Tags.
    (choice(("a", "i9"), ("b", "t2")), choice(("a", "i5")), ("a", 3), ("a", 3)),
    (choice(("a", "i9"), ("b", "t2")), choice(("a", "i5")), ("a", 2), None),
    (choice(("a", "i9"), ("b", "t2")), choice(("a", "i5")), ("b", ""), None),
    (choice(("a", "i9"), ("b", "t2")), choice(("a", "i5")), ("c", 3), None),
    (choice(("a", "i9"), ("b", "t2")), choice(("a", "i5")), {"a": 3}, None),
    (SAFE, choice(("a", "i9")), ("a", 7), ("a", 7)),
    (SAFE, choice(("b", "i5")), ("a", 7), ("b", 3)), (SAFE, choice(("b", "i5")), ("a", 3), None),
    (SAFE, choice(("b", "i5")), ("b", 3), None),
    # Of two choices of the same size the one with the lesser tag is less, whatever their values are.
    (SAFE, choice(("a", "i9"), ("b", "i9")), ("a", 7), ("a", 7)),
    (SAFE, choice(("a", "i9"), ("b", "i9")), ("a", 6), ("a", 6)),
    (choice(("m", "i9"), fallback=("m", 0)), choice(("k", "i9"), ("m", "i9"), ("n", "i9")), ("m", 0), ("k", 0)),
    (choice(("z", "i9"), fallback=("z", 0)), choice(("b", "i9"), ("z", "i9")), ("z", 0), ("b", 0)),
    (choice(("a", "i9"), fallback=("a", 0)), choice(("a", "i9"), ("b", "i9")), ("a", 0), ("a", 0)),
    (choice(("a", "i9"), fallback=("a", 9)), choice(("a", "i9"), ("b", "i5")), ("a", 9), ("a", 9)),
    (choice(("a", "t2"), fallback=("a", "q")), choice(("a", "t2"), ("b", "l")), ("a", "q"), ("b", [])),
    (choice(("a", "t2"), fallback=("a", "")), choice(("a", "t2"), ("b", "l")), ("a", ""), ("a", "")),
    (SAFE, choice(("a", "i5"), ("b", "none"), ("c", "l"), ("d", "t2")), ("a", 7), ("c", [])),
    (SAFE, choice(("a", "i5"), ("b", "none")), ("a", 7), None),
    (SAFE, choice(("a", "none"), ("b", "i5")), ("a", 7), ("b", 3)),
    (choice(("a", "drop"), fallback=("a", {"x": 4})), choice(("a", "rich"), ("b", "rich")), ("a", {"x": 4}),
        ("a", {"x": 4, "y": 3})),
    (choice(("a", "drop"), fallback=("a", {"x": 4})), choice(("a", "rich"), ("b", "l")), ("a", {"x": 4}), ("b", [])),
    # Two causes at once.
    (record(("a", "i9", "default", 7), need("b", "drop")), record(may("a", "i9"), need("b", "rich"), need("c", "i5")),
        {"a": 7, "b": {"x": 9}}, {"b": {"x": 9, "y": 3}, "c": 3}),
    (choice(("a", "drop"), fallback=("a", {"x": 0})), choice(("a", "rich"), ("d", "i5"), ("e", "i0")), ("a", {"x": 0}),
        ("d", 3)),
    # Writers that write just one value, and none.
    (("any",), ("integer", 4, 4), 4, 4), (("any",), ("integer", 4, 4), 0, None),
    (record(), record(need("a", "i0")), {}, {"a": 0}),
    (("text", 0), record(need("a", "none")), "", None), (record(), record(need("a", "none")), {}, None),
    (("any",), ("list", "none", 1, 1), [[]], None), (SAFE, choice(("a", "none"), ("b", "none")), ("a", 7), None),
    (record(may("a", "i0")), record(need("a", "any"), need("b", "none")), {"a": 0}, None),
]


def made(definition):
    return Format("root", {**TYPES, "root": definition})


class OneByOne(unittest.TestCase):
    def check(self, reader, writer, value, source):
        found = smallest_source(reader, writer, value)
        self.assertEqual(found, source)
        self.assertIs(type(found), type(source))
        if source is not None:
            self.assertTrue(is_written(writer, source))
            self.assertEqual(plain_read(reader, reader.root, source), value)

    def test_rows(self):
        for reading, writing, value, source in ROWS:
            with self.subTest(reader=reading, writer=writing, value=value):
                self.assertTrue(is_format(made(reading)) and is_format(made(writing)))
                self.check(made(reading), made(writing), value, source)

    def test_rows_within_others(self):
        for reading, writing, value, source in ROWS:
            for (reader, wrap), (writer, _) in zip(in_others(reading, TYPES), in_others(writing, TYPES)):
                with self.subTest(reader=reading, writer=writing, value=value, outer=writer.of("root")):
                    self.check(reader, writer, wrap(value), None if source is None else wrap(source))

    def test_a_format_reads_its_own_values_as_they_are(self):
        lists = ("list", "rich", 0, 2)
        for definition, value in [(HAVING, {"a": 3}), (SAFE, ("a", 7)), (lists, [{"x": 0, "y": 4, "z": 1}])]:
            self.check(made(definition), made(definition), value, value)

    def test_definitions_that_use_themselves(self):
        writer = Format("t", {"t": record(may("l", "t"), may("r", "t"), need("v", "i")), "i": ("integer", 0, 3)})
        reader = Format("t", {"t": record(may("l", "t"), ("v", "i", "default", 9)), "i": ("integer", 0, 9)})
        self.check(reader, writer, {"l": {"v": 2}, "v": 3}, {"l": {"v": 2}, "v": 3})
        self.check(reader, writer, {"l": {"v": 2}, "v": 9}, None)
        # The reader knows one step of each ring of two.
        writer = Format("a", {"a": choice(("p", "a"), ("q", "b")), "b": choice(("p", "a"), ("q", "b"), ("z", "i")),
            "i": ("integer", 4, 9)})
        reader = Format("c", {"c": choice(("q", "d"), fallback=("q", ("z", 1))), "d": choice(("q", "d"), ("z", "i"),
            fallback=("z", 0)), "i": ("integer", 0, 9)})
        self.check(reader, writer, ("q", ("z", 5)), ("q", ("z", 5)))
        self.check(reader, writer, ("q", ("z", 1)), ("p", ("q", ("z", 4))))
        self.check(reader, writer, ("q", ("z", 0)), ("q", ("p", ("q", ("z", 4)))))
        self.check(reader, writer, ("q", ("q", ("z", 0))), ("q", ("q", ("p", ("q", ("z", 4))))))
        self.check(reader, writer, ("q", ("z", 2)), None)

    def test_only_from_one_place_of_several(self):
        rows = {"i": ("integer", 0, 4), "j": ("integer", 5, 9)}
        writer = Format("r", {**rows, "r": choice(("a", "i"), ("b", "j"), ("c", "i"))})
        reader = Format("r", {"r": choice(("a", "i"), ("b", "i"), fallback=("b", 3)), "i": ("integer", 0, 9)})
        self.check(reader, writer, ("b", 3), ("c", 0))
        self.check(reader, writer, ("a", 3), ("a", 3))
        self.check(reader, writer, ("b", 5), ("b", 5))
        self.check(reader, writer, ("a", 5), None)
        self.check(reader, writer, ("b", 4), None)


class BesideAllValues(unittest.TestCase):
    def test_random_formats(self):
        told = {"source": 0, "later": 0, "none": 0}
        for reader, writer in lossy_pairs(83, 400):
            if not can_read(reader, writer):
                self.assertRaises(CannotRead, smallest_source, reader, writer, 0)
                continue
            with self.subTest(reader=reader.definitions, writer=writer.definitions):
                rows, _ = all_read(reader, writer, 6, 1000)
                first = {}
                for value, what in rows:
                    first.setdefault(format_value(what), (value, what))
                for value, what in list(first.values())[:40]:
                    self.assertEqual(smallest_source(reader, writer, what), value)
                told["source"] += len(first)
                told["later"] += len(rows) - len(first)
                for value in Listing(reader).up_to(reader.root, 4)[:40]:
                    told["none"] += self.check_any(reader, writer, value, first)
        self.assertGreater(min(told.values()), 500)

    def check_any(self, reader, writer, value, first):
        """Check a value that the reader writes, and tell whether nothing is read as it."""
        found = smallest_source(reader, writer, value)
        if format_value(value) in first:
            self.assertEqual(found, first[format_value(value)][0])
        elif found is not None:
            self.assertTrue(is_written(writer, found))
            self.assertEqual(plain_read(reader, reader.root, found), value)
        return found is None


class Errors(unittest.TestCase):
    def test_the_reader_cannot_read(self):
        for reading, writing in [
            (("integer", 0, 4), ("integer", 0, 5)), (("text", 0), ("any",)), (record(need("a", "i9")), record()),
            (choice(("a", "i9")), choice(("b", "i9"))), (("list", "i5", 0, 9), ("list", "i9", 0, 9)),
        ]:
            for value in (0, 4, "", [], [3], {}, ("a", 0)):
                self.assertRaises(CannotRead, smallest_source, made(reading), made(writing), value)

    def test_sizes_of_what_is_dropped(self):
        for size in (298, 299, 300, 301):
            rows = sized(size).definitions
            for reading, writing, value in [
                (record(), record(need("f", "a")), {}),
                (choice(("k", "i"), fallback=("k", 0)), choice(("f", "a")), ("k", 0)),
                (("list", "r2", 1, 1), ("list", "r1", 1, 1), [{}]),
            ]:
                inner = {"r1": record(need("f", "a")), "r2": record(), "i": ("integer", 0, 0), **rows}
                reader, writer = Format("root", {**inner, "root": reading}), Format("root", {**inner, "root": writing})
                whole = size + 1 + (writing[0] == "list")
                if whole > 300:
                    self.assertRaises(TooLarge, smallest_source, reader, writer, value)
                else:
                    found = smallest_source(reader, writer, value)
                    self.assertEqual(size_of(found), whole)
                    self.assertEqual(plain_read(reader, "root", found), value)

    def test_a_smaller_one_beside_a_large_one(self):
        rows = sized(300).definitions
        reader = Format("root", {**rows, "root": choice(("k", "i"), fallback=("k", 0))})
        writer = Format("root", {**rows, "root": choice(("f", "a"), ("k", "i"))})
        self.assertEqual(smallest_source(reader, writer, ("k", 0)), ("k", 0))
        # None is told where there is no source, though another value would have one that is too large.
        self.assertIsNone(smallest_source(reader, writer, ("k", 1)))
        self.assertIsNone(smallest_source(reader, writer, ("f", 1)))
        writer = Format("root", {**rows, "root": choice(("f", "a"), ("g", "q")), "q": ("list", "i", 3, 4)})
        self.assertEqual(smallest_source(reader, writer, ("k", 0)), ("g", [0, 0, 0]))

    def test_values_at_the_bounds(self):
        form = made(("any",))
        for value in ([0] * 299, ["a" * 20] * 14, 1000000, {"n%d" % at: [[]] for at in range(8)}):
            self.assertEqual(smallest_source(form, form, value), value)
        deep = 0
        for _ in range(20):
            deep = ("t", deep)
        self.assertEqual(smallest_source(form, form, deep), deep)
        tree = Format("t", {"t": choice(("t", "t"), ("u", "t"), ("v", "i")), "i": ("integer", 0, 1)})
        self.assertEqual(smallest_source(Format("x", {"x": ("any",)}), tree, deep), None)
        deep = ("v", 1)
        for _ in range(19):
            deep = ("t", deep)
        self.assertEqual(smallest_source(tree, tree, deep), deep)


class Arguments(unittest.TestCase):
    def test_they_stay(self):
        reader, writer = made(record(("a", "any", "default", [1]))), made(record(may("a", "any"), need("b", "any")))
        value = {"a": {"y": [1], "x": ("t", [])}}
        before = copy.deepcopy([reader.definitions, writer.definitions, value])
        found = smallest_source(reader, writer, value)
        self.assertEqual(found, {**value, "b": 0})
        self.assertEqual(list(found), ["a", "b"])
        self.assertEqual(list(found["a"]), ["x", "y"])
        self.assertEqual([reader.definitions, writer.definitions, value], before)
        self.assertEqual(list(value["a"]), ["y", "x"])

    def test_what_is_returned_is_new(self):
        form = made(("any",))
        for value in ([1], {"b": 1, "a": 2}):
            found = smallest_source(form, form, value)
            self.assertEqual(found, value)
            self.assertIsNot(found, value)
            self.assertEqual(list(found), sorted(found))


class GreatFormats(unittest.TestCase):
    def test_circles(self):
        form = in_circles(["optional"] * 4, 0)
        wider = Format("n00", {**form.definitions, "n07": ("any",)})
        value = {"a": ("a", [{}, {"b": [], "d": []}]), "c": {"a": ("b", {})}}
        self.assertTrue(is_written(form, value))
        self.assertEqual(smallest_source(form, form, value), value)
        self.assertEqual(smallest_source(wider, form, value), value)
        self.assertIsNone(smallest_source(form, form, {"a": ("e", {})}))
        # The reader does not know the field a of the root.
        fields = form.definitions["n00"][1][1:]
        narrow = Format("n00", {**form.definitions, "n00": ("record", fields)})
        self.assertEqual(smallest_source(narrow, form, {"c": {"a": ("b", {})}}), {"c": {"a": ("b", {})}})
        self.assertIsNone(smallest_source(narrow, form, value))
        # Here it is always written.
        form = in_circles(["required", "optional", "optional", "optional"], 0)
        narrow = Format("n00", {**form.definitions, "n00": ("record", form.definitions["n00"][1][1:])})
        self.assertEqual(smallest_source(narrow, form, {}), least_value(form))

    def test_great_defaults(self):
        names = "abcd"
        great = [["a" * 9] * 9] * 3
        rows = {"x": ("list", "y", 0, 9), "y": ("list", "t", 0, 9), "t": ("text", 9)}
        reader = Format("r", {**rows, "r": ("record", tuple((name, "x", "default", great) for name in names))})
        writer = Format("r", {**rows, "r": ("record", tuple(may(name, "x") for name in names))})
        self.assertEqual(smallest_source(reader, writer, {name: great for name in names}), {})
        self.assertEqual(smallest_source(reader, writer, {**{name: great for name in names}, "b": []}), {"b": []})


if __name__ == "__main__":
    unittest.main()
