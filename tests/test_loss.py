"""Points 27 to 29 and formatfit/loss.py: confusions, dropped fields and unknown tags."""

import copy
import random
import unittest

from formatfit.certificates import met_pairs
from formatfit.compatibility import can_read
from formatfit.errors import CannotRead, TooLarge
from formatfit.formats import Format
from formatfit.least import has_values
from formatfit.loss import dropped_fields, is_lossless, smallest_confusion, unknown_tags
from formatfit.reading import read_by
from formatfit.sources import smallest_source
from formatfit.value_text import format_value
from formatfit.values import compare_values, depth_of, size_of
from formatfit.writing import is_format, is_written
from listing import all_read, in_others, lossy_pairs, plain_read, random_format, sized
from listing import choice, in_circles, may, need, record

TYPES = {
    "any": ("any",), "i0": ("integer", 0, 0), "i1": ("integer", 0, 1), "i9": ("integer", 0, 9), "i5": ("integer", 3, 5),
    "t1": ("text", 1), "none": record(need("a", "none")), "l": ("list", "i9", 0, 3), "drop": record(need("x", "i9")),
    "rich": record(need("x", "i9"), need("y", "i5"), may("z", "i9")), "unit": record(),
}

HAVING = record(("a", "i9", "default", 7))
SAFE = choice(("a", "i9"), fallback=("a", 7))

# Reader, writer, and the least confusion or None.
ROWS = [
    # Nothing is lost.
    (("any",), ("any",), None), (("any",), record(may("a", "i9")), None),
    (("any",), choice(("a", "i9"), ("b", "t1")), None), (("integer", -9, 9), ("integer", 0, 5), None),
    (("text", 5), ("text", 3), None), (("list", "i9", 0, 9), ("list", "i5", 1, 3), None),
    (record(), record(), None), (record(may("a", "i9")), record(), None), (HAVING, record(), None),
    (HAVING, record(need("a", "i9")), None), (HAVING, HAVING, None), (record(need("a", "i9")), HAVING, None),
    (record(may("a", "i9")), record(may("a", "i9")), None), (SAFE, choice(("a", "i9")), None), (SAFE, SAFE, None),
    (choice(("a", "i9"), ("b", "t1")), choice(("b", "t1")), None),
    # Fields that are dropped.
    (record(), record(may("a", "i5")), ({}, {"a": 3})), (record(), record(need("a", "i5")), ({"a": 3}, {"a": 4})),
    (record(), record(("a", "i5", "default", 5)), ({"a": 3}, {"a": 4})), (record(), record(need("a", "i0")), None),
    (record(), record(may("a", "i0")), ({}, {"a": 0})), (record(), record(may("a", "none")), None),
    (record(), record(may("a", "any")), ({}, {"a": 0})), (record(), record(need("a", "any")), ({"a": 0}, {"a": 1})),
    (record(), record(need("a", "l")), ({"a": []}, {"a": [0]})), (record(), record(need("a", "unit")), None),
    (record(), record(may("a", "drop"), may("b", "i5")), ({}, {"b": 3})),
    (record(), record(may("a", "l"), may("b", "i5")), ({}, {"a": []})),
    (record(), record(need("a", "i9"), need("b", "i9")), ({"a": 0, "b": 0}, {"a": 0, "b": 1})),
    (record(), record(need("a", "t1"), need("b", "i9")), ({"a": "", "b": 0}, {"a": "", "b": 1})),
    (record(need("a", "i9")), record(need("a", "i9"), need("b", "i9")), ({"a": 0, "b": 0}, {"a": 0, "b": 1})),
    (record(need("b", "i9")), record(need("a", "t1"), need("b", "i5")), ({"a": "", "b": 3}, {"a": "a", "b": 3})),
    (record(need("b", "i9")), record(may("a", "t1"), need("b", "i5")), ({"b": 3}, {"a": "", "b": 3})),
    # Fields that are optional for the writer and have a default.
    (HAVING, record(may("a", "i9")), ({}, {"a": 7})), (HAVING, record(may("a", "i5")), None),
    (HAVING, record(may("a", "none")), None),
    (HAVING, record(may("a", "i9"), need("b", "i0")), ({"b": 0}, {"a": 7, "b": 0})),
    (record(("a", "l", "default", [1, 2])), record(may("a", "l")), ({}, {"a": [1, 2]})),
    (record(("a", "drop", "default", {"x": 0})), record(may("a", "rich")), ({}, {"a": {"x": 0, "y": 3}})),
    (record(("a", "unit", "default", {})), record(may("a", "drop")), ({}, {"a": {"x": 0}})),
    # What is lost within the field comes ahead of what is read as the default.
    (record(("a", "drop", "default", {"x": 4})), record(may("a", "rich")),
        ({"a": {"x": 0, "y": 3}}, {"a": {"x": 0, "y": 4}})),
    # Tags that are unknown.
    (SAFE, choice(("b", "i0")), None), (SAFE, choice(("b", "i5")), (("b", 3), ("b", 4))),
    (SAFE, choice(("b", "none")), None), (SAFE, choice(("b", "i0"), ("c", "i0")), (("b", 0), ("c", 0))),
    (SAFE, choice(("b", "l"), ("c", "t1")), (("b", []), ("c", ""))),
    (SAFE, choice(("b", "i9"), ("c", "i9")), (("b", 0), ("b", 1))),
    (SAFE, choice(("a", "i9"), ("b", "i0")), (("a", 7), ("b", 0))),
    (SAFE, choice(("a", "i5"), ("b", "i0")), None), (SAFE, choice(("a", "i9"), ("b", "none")), None),
    (SAFE, choice(("a", "none"), ("b", "i0")), None), (SAFE, choice(("a", "i5"), ("b", "i9")), (("b", 0), ("b", 1))),
    (SAFE, choice(("a", "i9"), ("b", "i9")), (("a", 7), ("b", 0))),
    (choice(("m", "i9"), fallback=("m", 7)), choice(("k", "i0"), ("m", "i9")), (("k", 0), ("m", 7))),
    (choice(("m", "i9"), fallback=("m", 7)), choice(("k", "i9"), ("m", "i9")), (("k", 0), ("k", 1))),
    (choice(("m", "i9"), fallback=("m", 1)), choice(("k", "l"), ("m", "i9")), (("k", []), ("m", 1))),
    (choice(("m", "t1"), fallback=("m", "")), choice(("k", "l"), ("m", "t1")), (("k", []), ("m", ""))),
    (choice(("m", "t1"), fallback=("m", "a")), choice(("k", "drop"), ("m", "t1")), (("k", {"x": 0}), ("k", {"x": 1}))),
    (choice(("m", "t1"), fallback=("m", "a")), choice(("m", "t1"), ("n", "drop")), (("m", "a"), ("n", {"x": 0}))),
    (choice(("m", "l"), fallback=("m", [5])), choice(("m", "l"), ("n", "i0")), (("n", 0), ("m", [5]))),
    (choice(("a", "drop"), fallback=("a", {"x": 4})), choice(("a", "rich"), ("b", "l")), (("b", []), ("b", [0]))),
    (choice(("a", "drop"), fallback=("a", {"x": 0})), choice(("a", "rich"), ("b", "unit")),
        (("b", {}), ("a", {"x": 0, "y": 3}))),
    (choice(("a", "drop"), fallback=("a", {"x": 4})), choice(("a", "rich"), ("b", "unit")),
        (("a", {"x": 0, "y": 3}), ("a", {"x": 0, "y": 4}))),
    # Two causes at once.
    (record(("a", "l", "default", [1, 2])), record(may("a", "l"), need("b", "i9")), ({"b": 0}, {"b": 1})),
    (record(("b", "i9", "default", 2)), record(need("a", "drop"), may("b", "i9")),
        ({"a": {"x": 0}}, {"a": {"x": 1}})),
    (record(("b", "i9", "default", 2)), record(need("a", "unit"), may("b", "i9"), may("c", "i9")),
        ({"a": {}}, {"a": {}, "b": 2})),
    (record(("b", "i9", "default", 0)), record(need("a", "unit"), may("aa", "l"), may("b", "i9")),
        ({"a": {}}, {"a": {}, "aa": []})),
    # Within.
    (("list", "drop", 0, 9), ("list", "rich", 0, 9), ([{"x": 0, "y": 3}], [{"x": 0, "y": 4}])),
    (("list", "drop", 0, 9), ("list", "rich", 2, 9),
        ([{"x": 0, "y": 3}] * 2, [{"x": 0, "y": 3}, {"x": 0, "y": 4}])),
    (("list", "unit", 0, 9), ("list", "drop", 1, 1), ([{"x": 0}], [{"x": 1}])),
    (("list", "drop", 0, 9), ("list", "rich", 0, 0), None), (("list", "any", 0, 9), ("list", "rich", 0, 9), None),
    (record(may("f", "drop"), need("g", "i9")), record(may("f", "rich"), need("g", "i5")),
        ({"f": {"x": 0, "y": 3}, "g": 3}, {"f": {"x": 0, "y": 4}, "g": 3})),
    (choice(("s", "unit"), ("t", "unit")), choice(("s", "drop"), ("t", "unit")), (("s", {"x": 0}), ("s", {"x": 1}))),
    # Writers that write nothing, or one value.
    (record(), record(need("a", "none"), need("b", "i9")), None),
    (("text", 0), record(need("a", "none"), may("b", "i9")), None),
    (("list", "unit", 0, 9), ("list", "none", 1, 1), None), (("list", "unit", 0, 9), ("list", "none", 0, 1), None),
    (("integer", 0, 9), ("integer", 4, 4), None), (SAFE, choice(("b", "none"), ("c", "none")), None),
]


def made(definition):
    return Format("root", {**TYPES, "root": definition})


class OneByOne(unittest.TestCase):
    def check(self, reader, writer, confusion):
        self.assertIs(is_lossless(reader, writer), confusion is None)
        found = smallest_confusion(reader, writer)
        self.assertEqual(found, confusion)
        if confusion is not None:
            self.assertIs(type(found), tuple)
            self.assertEqual([type(value) for value in found], [type(value) for value in confusion])
            self.assertEqual(compare_values(*found), -1)
            what = [plain_read(reader, reader.root, value) for value in found]
            self.assertEqual(what[0], what[1])
            self.assertEqual([is_written(writer, value) for value in found], [True, True])
            self.assertEqual(smallest_source(reader, writer, what[0]), found[0])

    def test_rows(self):
        for reading, writing, confusion in ROWS:
            with self.subTest(reader=reading, writer=writing):
                self.assertTrue(is_format(made(reading)) and is_format(made(writing)))
                self.check(made(reading), made(writing), confusion)

    def test_rows_within_others(self):
        for reading, writing, confusion in ROWS:
            for (reader, wrap), (writer, _) in zip(in_others(reading, TYPES), in_others(writing, TYPES)):
                with self.subTest(reader=reading, writer=writing, outer=writer.of("root")):
                    self.check(reader, writer, confusion and tuple(wrap(value) for value in confusion))

    def test_a_format_is_lossless_for_itself(self):
        for reading, writing, _ in ROWS:
            for definition in (reading, writing):
                self.check(made(definition), made(definition), None)

    def test_definitions_that_use_themselves(self):
        def tree(*fields):
            return Format("t", {"t": record(may("l", "t"), may("r", "t"), *fields), "i": ("integer", 0, 9)})

        self.check(tree(), tree(need("v", "i")), ({"v": 0}, {"v": 1}))
        self.check(tree(), tree(may("v", "i")), ({}, {"v": 0}))
        self.check(tree(("v", "i", "default", 4)), tree(may("v", "i")), ({}, {"v": 4}))
        self.check(tree(may("v", "i")), tree(may("v", "i")), None)
        # Only every third one has the field.
        rows = {"t": record(may("n", "u")), "u": record(may("n", "v")), "v": record(may("n", "t"), may("x", "i")),
            "i": ("integer", 4, 9)}
        one = Format("t", {"t": record(may("n", "t"))})
        self.check(one, Format("t", rows), ({"n": {"n": {}}}, {"n": {"n": {"x": 4}}}))
        two = Format("t", {"t": record(may("n", "u")), "u": record(may("n", "t"), ("x", "i", "default", 5)),
            "i": ("integer", 0, 9)})
        # The default is filled in where there is such a field only six deep; it is dropped earlier.
        self.check(two, Format("t", rows), ({"n": {"n": {}}}, {"n": {"n": {"x": 4}}}))
        rows["v"] = record(may("n", "t"))
        self.check(two, Format("t", rows), None)
        rows["t"] = record(may("n", "u"), may("x", "i"))
        self.check(two, Format("t", rows), ({}, {"x": 4}))
        rows["t"], rows["u"] = record(may("n", "u")), record(may("n", "v"), may("x", "i"))
        self.check(two, Format("t", rows), ({"n": {}}, {"n": {"x": 5}}))

    def test_any_hides_what_is_within(self):
        reader = Format("r", {"r": record(may("f", "x"), may("g", "y")), "x": ("any",), "y": record()})
        rows = {"z": ("list", "y", 0, 0), "y": record(may("h", "z"))}
        writer = Format("r", {**rows, "r": record(may("f", "y"), may("g", "z"))})
        self.assertRaises(CannotRead, is_lossless, reader, writer)
        writer.definitions["r"] = record(may("f", "y"))
        self.check(reader, writer, None)
        writer.definitions["r"] = record(may("f", "y"), may("g", "y"))
        self.check(reader, writer, ({"g": {}}, {"g": {"h": []}}))


class BesideAllValues(unittest.TestCase):
    def test_random_formats(self):
        told = {"lossy": 0, "far": 0, "lossless": 0}
        for reader, writer in lossy_pairs(89, 500):
            if can_read(reader, writer):
                with self.subTest(reader=reader.definitions, writer=writer.definitions):
                    told[self.check(reader, writer)] += 1
        self.assertGreater(told["lossy"], 80)
        self.assertGreater(told["lossless"], 200)

    def check(self, reader, writer):
        rows, size = all_read(reader, writer, 7, 1200)
        first = {}
        confusion = None
        for value, what in rows:
            before = first.setdefault(format_value(what), value)
            if before is not value and confusion is None:
                confusion = (before, value)
        try:
            found = smallest_confusion(reader, writer)
        except TooLarge:
            found = "large"
        self.assertIs(is_lossless(reader, writer), found is None)
        if confusion is not None:
            self.assertEqual(found, confusion)
            return "lossy"
        if found is None:
            return "lossless"
        if found != "large":
            self.assertGreater(size_of(found[1]), size)
            self.assertEqual(compare_values(*found), -1)
            self.assertEqual(*[plain_read(reader, reader.root, value) for value in found])
        return "far"


class Facts(unittest.TestCase):
    def test_a_format_is_lossless_for_itself(self):
        for _, form in lossy_pairs(97, 150):
            self.assertTrue(is_lossless(form, form))
            self.assertIsNone(smallest_confusion(form, form))
            self.assertEqual([dropped_fields(form, form), unknown_tags(form, form)], [[], []])

    def test_nothing_is_lost_without_a_cause(self):
        clean = 0
        for reader, writer in lossy_pairs(101, 500):
            if can_read(reader, writer) and not dropped_fields(reader, writer) and not unknown_tags(reader, writer):
                if not any(filled(reader.of(one), writer.of(other)) for one, other in met_pairs(reader, writer)):
                    clean += 1
                    self.assertTrue(is_lossless(reader, writer))
        self.assertGreater(clean, 150)


def filled(reading, writing):
    """Whether a field is optional for the writer and has a default for the reader."""
    if reading[0] != "record" or writing[0] != "record":
        return False
    optional = [field[0] for field in writing[1] if field[2] == "optional"]
    return any(field[2] == "default" and field[0] in optional for field in reading[1])


class DroppedAndUnknown(unittest.TestCase):
    def test_ascending_and_at_all_pairs_that_are_met(self):
        reader = Format("r", {
            "r": record(may("a", "s"), may("b", "s"), need("c", "k")), "s": record(may("a", "s")),
            "k": choice(("y", "s"), fallback=("y", {})),
        })
        writer = Format("m", {
            "m": record(may("a", "m"), may("b", "n"), need("c", "k"), may("z", "i")), "i": ("integer", 0, 1),
            "n": record(may("a", "m"), need("y", "i")), "k": choice(("x", "i"), ("y", "n"), ("z", "m")),
        })
        self.assertTrue(is_format(reader) and is_format(writer))
        self.assertEqual(dropped_fields(reader, writer), [
            ("r", "m", "z"), ("s", "m", "b"), ("s", "m", "c"), ("s", "m", "z"), ("s", "n", "y"),
        ])
        self.assertEqual(unknown_tags(reader, writer), [("k", "k", "x"), ("k", "k", "z")])

    def test_types_without_values_are_left_out(self):
        reader = made(record(need("f", "in")))
        reader.definitions["in"] = choice(("k", "unit"), fallback=("k", {}))
        writer = made(record(need("f", "in"), may("g", "none"), may("h", "i9"), may("i", "gone")))
        writer.definitions["in"] = choice(("k", "more"), ("u", "none"), ("v", "i9"), ("w", "gone"))
        writer.definitions["more"] = record(may("p", "none"), may("q", "l"))
        writer.definitions["gone"] = ("list", "none", 1, 2)
        self.assertEqual(dropped_fields(reader, writer), [("root", "root", "h"), ("unit", "more", "q")])
        self.assertEqual(unknown_tags(reader, writer), [("in", "in", "v")])

    def test_not_where_nothing_is_met(self):
        # Within any, behind types without values, behind lists of no length, behind tags that are unknown.
        inner = {"drop": record(), "rich": record(may("x", "i9")), "i9": ("integer", 0, 9), "none": TYPES["none"]}
        reader = Format("root", {
            **inner, "root": record(may("a", "any"), may("b", "l"), may("c", "k"), may("d", "drop")), "any": ("any",),
            "l": ("list", "drop", 0, 9), "k": choice(("u", "i9"), fallback=("u", 0)),
        })
        writer = Format("root", {
            **inner, "root": record(may("a", "rich"), may("b", "l"), may("c", "k"), may("d", "both")),
            "l": ("list", "rich", 0, 0), "k": choice(("t", "rich"), ("u", "i9")),
            "both": record(may("x", "i9"), need("y", "none")),
        })
        self.assertEqual(dropped_fields(reader, writer), [])
        self.assertEqual(unknown_tags(reader, writer), [("k", "k", "t")])
        writer.definitions["l"] = ("list", "rich", 0, 1)
        self.assertEqual(dropped_fields(reader, writer), [("drop", "rich", "x")])
        self.assertEqual(dropped_fields(Format("root", {**inner, "root": ("any",)}), writer), [])
        self.assertEqual(unknown_tags(Format("root", {**inner, "root": ("any",)}), writer), [])

    def test_one_by_one(self):
        three = record(may("a", "i9"), need("b", "i9"), ("c", "i9", "default", 0))
        rows = [
            (record(), three, ["a", "b", "c"], []), (record(need("b", "i9")), three, ["a", "c"], []),
            (record(may("a", "i9"), may("b", "i9")), record(may("a", "i9")), [], []),
            (record(), record(need("a", "i0")), ["a"], []),
            (record(), record(need("a", "none"), need("b", "i9")), [], []),
            (SAFE, choice(("a", "i9"), ("b", "i9"), ("c", "t1")), [], ["b", "c"]), (SAFE, choice(("a", "i9")), [], []),
            (SAFE, choice(("b", "i0")), [], ["b"]), (choice(("a", "i9"), ("b", "i9")), choice(("a", "i9")), [], []),
            (("any",), choice(("a", "i9")), [], []), (("any",), record(may("a", "i9")), [], []),
            (("any",), ("any",), [], []), (("integer", 0, 5), ("integer", 0, 5), [], []),
            (("list", "i9", 0, 9), ("list", "i5", 0, 9), [], []),
        ]
        for reading, writing, fields, tags in rows:
            for name in ("root", "z"):
                reader, writer = Format(name, {**TYPES, name: reading}), made(writing)
                with self.subTest(reader=reading, writer=writing):
                    found = dropped_fields(reader, writer), unknown_tags(reader, writer)
                    self.assertEqual(found, tuple([(name, "root", part) for part in parts] for parts in (fields, tags)))
                    self.assertEqual([type(part) for part in found], [list, list])

    def test_random_formats(self):
        many = 0
        for reader, writer in lossy_pairs(103, 300):
            if can_read(reader, writer):
                fields, tags = parts_not_known(reader, writer)
                many += len(fields) + len(tags)
                self.assertEqual(dropped_fields(reader, writer), sorted(fields))
                self.assertEqual(unknown_tags(reader, writer), sorted(tags))
        self.assertGreater(many, 60)


def parts_not_known(reader, writer):
    """Fields that are dropped and tags that are unknown, by the words of [28]."""
    fields, tags = [], []
    for pair in met_pairs(reader, writer):
        one, other = reader.of(pair[0]), writer.of(pair[1])
        for kind, found in (("record", fields), ("choice", tags)):
            if one[0] == other[0] == kind:
                known = {part[0] for part in one[1]}
                new = [part for part in other[1] if part[0] not in known]
                found.extend((*pair, part[0]) for part in new if has_values(writer, part[1]))
    return fields, tags


class Errors(unittest.TestCase):
    def test_the_reader_cannot_read(self):
        for reading, writing in [
            (("integer", 0, 4), ("integer", 0, 5)), (("text", 0), ("any",)), (record(need("a", "i9")), record()),
            (choice(("a", "i9")), choice(("b", "i9"))), (("list", "i5", 0, 9), ("list", "i9", 0, 9)),
            (record(), choice(("a", "i9"))),
        ]:
            for ask in (smallest_confusion, is_lossless, dropped_fields, unknown_tags):
                self.assertRaises(CannotRead, ask, made(reading), made(writing))

    def test_sizes(self):
        for size in (297, 298, 299, 300, 305):
            rows = {**sized(size).definitions, "u": record(), "j": ("integer", 0, 1)}
            for reading, writing, whole in [
                (record(need("f", "a")), record(need("f", "a"), need("g", "j")), size + 2),
                (record(), record(may("f", "a")), size + 1), (("list", "u", 0, 1), ("list", "v", 0, 1), size + 2),
                (choice(("k", "i"), fallback=("k", 0)), choice(("f", "a"), ("k", "i")), size + 1),
                (choice(("k", "i"), fallback=("k", 0)), choice(("f", "a"), ("k", "i"), ("l", "i")), 2),
            ]:
                inner = {**rows, "v": record(may("f", "a"))}
                reader, writer = Format("root", {**inner, "root": reading}), Format("root", {**inner, "root": writing})
                with self.subTest(size=size, reader=reading):
                    self.check(reader, writer, whole)

    def check(self, reader, writer, whole):
        self.assertIs(is_lossless(reader, writer), False)
        if whole > 300:
            self.assertRaises(TooLarge, smallest_confusion, reader, writer)
        else:
            found = smallest_confusion(reader, writer)
            self.assertEqual(size_of(found[1]), whole)
            self.assertEqual(*[plain_read(reader, "root", value) for value in found])

    def test_where_the_only_value_is_too_large(self):
        rows = {"x": record(*[need(name, "y") for name in "abcd"]), "y": ("list", "z", 9, 9), "z": ("list", "i", 9, 9),
            "i": ("integer", 0, 0)}
        reader = Format("root", {"root": choice(("k", "i"), fallback=("k", 0)), "i": ("integer", 0, 0)})
        for cases in ([("f", "x")], [("k", "i")]):
            writer = Format("root", {**rows, "root": choice(*cases)})
            self.assertIs(is_lossless(reader, writer), True)
            self.assertIsNone(smallest_confusion(reader, writer))
        for cases in ([("f", "x"), ("g", "x")], [("f", "x"), ("k", "i")], [("k", "i"), ("l", "x")]):
            writer = Format("root", {**rows, "root": choice(*cases)})
            self.check(reader, writer, 301)
        writer = Format("root", {**rows, "root": record(need("f", "x"))})
        self.assertIs(is_lossless(Format("root", {"root": record()}), writer), True)
        self.assertIsNone(smallest_confusion(Format("root", {"root": record()}), writer))

    def test_what_is_read_may_be_too_large(self):
        # The two values are small; what both are read as has a size above 300.
        great = [["a" * 9] * 9] * 3
        rows = {"x": ("list", "y", 0, 9), "y": ("list", "t", 0, 9), "t": ("text", 9)}
        reader = Format("r", {**rows, "r": record(*[(name, "x", "default", great) for name in "abc"])})
        writer = Format("r", {**rows, "r": record(may("d", "x"))})
        self.assertEqual(smallest_confusion(reader, writer), ({}, {"d": []}))
        self.assertGreater(size_of(read_by(reader, "r", {})[1]), 300)


class GreatFormats(unittest.TestCase):
    def test_circles(self):
        for presences in (["optional"] * 4, ["required", "optional", "optional", "optional"]):
            form = in_circles(presences, 0)
            self.assertTrue(is_lossless(form, form))
            wider = Format("n00", {**form.definitions, "n07": ("any",)})
            self.assertTrue(is_lossless(wider, form))
            self.assertEqual([dropped_fields(wider, form), unknown_tags(wider, form)], [[], []])
            for name in ("n00", "n03", "n06", "n09"):
                narrow = Format("n00", {**form.definitions, name: ("record", form.definitions[name][1][:3])})
                self.assertEqual(dropped_fields(narrow, form), [(name, name, "d")])
                self.assertEqual(unknown_tags(narrow, form), [])
                self.assertIs(is_lossless(narrow, form), False)
                found = smallest_confusion(narrow, form)
                self.assertEqual(*[plain_read(narrow, "n00", value) for value in found])

    def test_deep_confusions(self):
        def ring(many, letter, extra):
            names = [letter + str(at) for at in range(many)]
            rows = {"leaf": ("integer", 0, 5)}
            for at, name in enumerate(names):
                rows[name] = record(*[may("leaf", "leaf")] * (at != extra), may("next", names[(at + 1) % many]))
            return Format(names[0], rows)

        # Eleven and ten definitions; each value of the reader has the leaf but for one, each of the writer.
        reader, writer = ring(10, "r", 8), ring(11, "w", None)
        writer.definitions.update({name: record(may("next", writer.of(name)[1][1][1])) for name in writer.names()
            if name not in ("leaf", "w10")})
        depth = next(at for at in range(200) if at % 11 == 10 and at % 10 == 8)
        one, other = {}, {"leaf": 0}
        for _ in range(depth):
            one, other = {"next": one}, {"next": other}
        self.assertEqual(smallest_confusion(reader, writer), (one, other))
        self.assertEqual(depth_of(other), 99)
        self.assertIs(is_lossless(reader, writer), False)
        self.assertEqual(dropped_fields(reader, writer), [("r8", "w10", "leaf")])

    def test_random_great_formats(self):
        source = random.Random(107)
        for _ in range(15):
            writer = random_format(source, 12)
            for ask in (smallest_confusion, dropped_fields, unknown_tags):
                self.assertFalse(ask(writer, writer))

    def test_arguments_stay(self):
        reader, writer = made(record(("a", "l", "default", [1]))), made(record(may("a", "l"), may("b", "any")))
        before = copy.deepcopy([reader.definitions, writer.definitions])
        found = smallest_confusion(reader, writer)
        self.assertEqual(found, ({}, {"b": 0}))
        found[0]["more"] = 1
        for ask in (dropped_fields, unknown_tags):
            ask(reader, writer).append("more")
        self.assertEqual(dropped_fields(reader, writer), [("root", "root", "b")])
        is_lossless(reader, writer)
        self.assertEqual([reader.definitions, writer.definitions], before)
        self.assertEqual(smallest_confusion(reader, writer), ({}, {"b": 0}))


if __name__ == "__main__":
    unittest.main()
