"""Points 11 and 12 and formatfit/writing.py: what a definition writes, and what makes a format."""

import copy
import itertools
import random
import unittest

from formatfit.errors import BadFormat
from formatfit.formats import Format, is_shaped
from formatfit.writing import checked, is_format, is_kind, is_written, writes
from listing import Listing, random_format

FORM = Format("tree", {
    "any": ("any",),
    "int": ("integer", -2, 5),
    "text": ("text", 3),
    "ints": ("list", "int", 1, 3),
    "none": ("list", "int", 0, 0),
    "empty": ("record", ()),
    "rec": ("record", (("a", "int", "required"), ("b", "text", "optional"), ("c", "ints", "default", [1]))),
    "pick": ("choice", (("int", "int"), ("rec", "rec"), ("self", "pick")), ("int", 0)),
    "tree": ("list", "tree", 0, 2),
    "loop": ("record", (("a", "loop", "required"),)),
    "opt": ("record", (("a", "opt", "optional"), ("b", "loop", "optional"))),
    "free": ("record", (("a", "any", "required"),)),
})

WRITTEN = {
    "any": [0, -1000000, 1000000, "", "abc", [], {}, {"a": 1}, ("t", []), [[{"a": ("b", "c")}], 0]],
    "int": [-2, -1, 0, 5],
    "text": ["", "a", "abc", "zzz"],
    "ints": [[0], [5, -2], [1, 1, 1]],
    "none": [[]],
    "empty": [{}],
    "rec": [{"a": 0, "c": [0]}, {"c": [1, 2, 3], "b": "", "a": 5}, {"a": -2, "b": "abc", "c": [1]}],
    "pick": [("int", 0), ("rec", {"a": 0, "c": [0]}), ("self", ("int", 5)), ("self", ("self", ("self", ("int", -2))))],
    "tree": [[], [[]], [[], []], [[[], []], [[[[]]]]]],
    "loop": [],
    "opt": [{}, {"a": {}}, {"a": {"a": {"a": {}}}}],
    "free": [{"a": 0}, {"a": {"b": []}}, {"a": ("x", "y")}],
}

NOT_WRITTEN = {
    "any": [],
    "int": [-3, 6, 1000000, "", "a", [], [0], {}, ("int", 0)],
    "text": ["abcd", "a" * 20, 0, [], ["a"], {}, ("text", "a")],
    "ints": [[], [0, 0, 0, 0], [6], [0, -3], [0, 0, "a"], [[0]], 0, "", {}, ("a", [0])],
    "none": [[0], [[]], 0, "", {}],
    "empty": [{"a": 0}, {"b": {}}, 0, "", [], ("a", {})],
    "rec": [
        {}, {"a": 0}, {"c": [0]}, {"b": "", "c": [0]}, {"a": 0, "b": ""}, {"a": 6, "c": [0]}, {"a": 0, "c": []},
        {"a": 0, "c": [0], "d": 0}, {"a": 0, "b": "abcd", "c": [0]}, {"a": 0, "b": 0, "c": [0]}, {"a": 0, "c": [9]},
        {"a": "", "c": [0]}, {"a": 0, "c": [0, 0, 0, 0]}, {"a": 0, "bb": "", "c": [0]}, 0, "", [], [0],
        ("a", {"a": 0, "c": [0]}),
    ],
    "pick": [
        ("int", 6), ("int", ""), ("other", 0), ("rec", {"a": 0}), ("self", 0), ("self", ("self", ("int", -3))),
        ("self", ("other", 0)), ("in", 0), 0, "int", [], ["int", 0], {"int": 0}, {},
    ],
    "tree": [[[], [], []], [[[], [], []]], [0], [[], 0], [[[[0]]]], [{}], 0, {}, "", ("a", [])],
    "loop": [{}, {"a": {}}, {"a": {"a": {"a": {}}}}, 0, {"a": 0}],
    "opt": [{"b": {}}, {"a": {"b": {}}}, {"a": {"a": 0}}, {"b": {"a": {}}}, {"c": {}}],
    "free": [{}, {"b": 0}, {"a": 0, "b": 0}],
}

DEFINITIONS = {
    0: ("integer", 0, 1), 1: ("text", 3), 2: ("list", "a", 0, 1), 3: ("record", ()), 4: ("choice", (("a", "a"),), None),
}
VALUES = {0: [0, -5, 77], 1: ["", "abcdef"], 2: [[], [0, 0, 0]], 3: [{}, {"z": 0}], 4: [("a", 0), ("z", [])]}


def nested(depth, inner):
    for _ in range(depth):
        inner = [inner]
    return inner


class Writing(unittest.TestCase):
    def check(self, form, name, value, expected):
        with self.subTest(name=name, value=value):
            self.assertIs(writes(form, name, value), expected)
            self.assertIs(is_written(Format(name, form.definitions), value), expected)

    def test_it_is_a_format(self):
        self.assertTrue(is_format(FORM))

    def test_written(self):
        for name, values in WRITTEN.items():
            for value in values:
                self.check(FORM, name, value, True)

    def test_not_written(self):
        for name, values in NOT_WRITTEN.items():
            for value in values:
                self.check(FORM, name, value, False)

    def test_the_same_deep_within_others(self):
        rows = {
            "list": ("list", "in", 3, 3), "rec": ("record", (("x", "in", "required"), ("y", "in", "optional"))),
            "opt": ("record", (("x", "in", "default", 0), ("y", "in", "optional"))),
            "pick": ("choice", (("t", "in"),), None),
        }
        for name in FORM.names():
            good = WRITTEN[name][0] if WRITTEN[name] else None
            for kind, definition in rows.items():
                form = Format("out", {**FORM.definitions, "in": FORM.of(name), "mid": definition})
                form = Format("out", {**form.definitions, "out": ("list", "mid", 1, 2)})
                for value in WRITTEN[name]:
                    self.check(form, "out", [wrapped(kind, good, value)], True)
                for value in NOT_WRITTEN[name]:
                    if good is not None:
                        self.check(form, "out", [wrapped(kind, good, value)], False)
                        self.check(form, "out", [wrapped(kind, good, good), wrapped(kind, good, value)], False)

    def test_any_writes_values_of_any_size(self):
        for value in ([0] * 400, nested(40, 0), {"a": [0] * 400}, 1000000, "a" * 20):
            self.check(FORM, "any", value, True)
            self.check(FORM, "free", {"a": value}, True)

    def test_deep_values(self):
        self.check(FORM, "tree", nested(20, []), True)
        self.check(FORM, "tree", nested(20, 0), False)
        self.check(FORM, "tree", nested(280, []), True)
        self.check(FORM, "tree", nested(280, 0), False)

    def test_beside_all_values_that_are_listed(self):
        made = random.Random(11)
        for _ in range(60):
            form = random_format(made, made.randint(1, 3), ["integer", "text", "list", "record", "choice"])
            listings = Listing(form)
            pool = [value for name in form.names() for value in listings.up_to(name, 4)[:200]]
            for name in form.names():
                written = [value for size in range(1, 5) for value in listings.of_size(name, size)]
                for value in pool:
                    self.assertIs(writes(form, name, value), value in written, (form.definitions, name, value))

    def test_the_root_alone_counts(self):
        form = Format("a", {"a": ("integer", 0, 1), "b": ("text", 1)})
        self.assertTrue(is_written(form, 1))
        self.assertFalse(is_written(form, "a"))
        self.assertTrue(writes(form, "b", "a"))

    def test_arguments_stay(self):
        value = {"c": [1, 2], "a": 0}
        before = copy.deepcopy(FORM.definitions)
        self.assertTrue(writes(FORM, "rec", value))
        self.assertEqual(list(value.items()), [("c", [1, 2]), ("a", 0)])
        self.assertEqual(FORM.definitions, before)


def wrapped(kind, good, value):
    if kind == "list":
        return [good, value, good]
    if kind == "pick":
        return ("t", value)
    return {"x": value} if kind == "opt" else {"x": good, "y": value}


class Kinds(unittest.TestCase):
    def test_each_with_each(self):
        for (number, definition), (kind, values) in itertools.product(DEFINITIONS.items(), VALUES.items()):
            for value in values:
                with self.subTest(definition=definition, value=value):
                    self.assertIs(is_kind(definition, value), number == kind)


def with_default(types, inner, value):
    return Format("r", {**types, "r": ("record", (("f", inner, "default", value),))})


def with_fallback(types, cases, value):
    return Format("c", {**types, "c": ("choice", cases, value)})


TYPES = {
    "any": ("any",), "int": ("integer", 0, 5), "text": ("text", 2), "ints": ("list", "int", 1, 2),
    "rec": ("record", (("a", "int", "required"),)), "pick": ("choice", (("t", "int"),), None),
    "none": ("record", (("a", "none", "required"),)), "tree": ("list", "tree", 0, 2),
}

GOOD_DEFAULTS = [
    ("any", 1000000), ("any", [0] * 299), ("any", nested(20, 0)), ("any", "a" * 20), ("any", {"zz": ("u", [])}),
    ("int", 0), ("int", 5), ("text", ""), ("text", "zz"), ("ints", [0]), ("ints", [5, 5]), ("rec", {"a": 1}),
    ("pick", ("t", 4)), ("tree", []), ("tree", nested(19, [])),
]

# The second part is what the type would write if it were a value of [3], or any if it would not.
NOT_WRITTEN_DEFAULTS = [
    ("int", 6), ("int", -1), ("int", ""), ("text", "abc"), ("text", 0), ("ints", []), ("ints", [0, 0, 0]),
    ("ints", [6]),
    ("rec", {}), ("rec", {"a": 6}), ("rec", {"a": 0, "b": 0}), ("pick", ("u", 0)), ("pick", ("t", 6)), ("pick", 0),
    ("none", {}), ("none", {"a": {}}), ("tree", [[], [], []]), ("tree", [[0]]),
]

NO_VALUES = [
    1000001, -1000001, "a" * 21, "A", "a b", [0] * 300, nested(21, 0), nested(20, []), {"abcdefghi": 0}, {"A": 0},
    {"f" + str(at): 0 for at in range(9)}, ("A", 0), ("abcdefghi", 0), ("a", 0, 0), None, [1000001], {"a": [None]},
    ("t", "a" * 21),
]


class FormatsOrNot(unittest.TestCase):
    def check(self, form, expected, shaped=True):
        with self.subTest(root=form.root, definitions=form.definitions):
            self.assertIs(is_shaped(form), shaped)
            self.assertIs(is_format(form), expected)
            if expected:
                self.assertIs(checked(form), form)
            else:
                self.assertRaises(BadFormat, checked, form)

    def test_defaults(self):
        for inner, value in GOOD_DEFAULTS:
            self.check(with_default(TYPES, inner, value), True)
        for inner, value in NOT_WRITTEN_DEFAULTS:
            self.check(with_default(TYPES, inner, value), False)
        for value in NO_VALUES:
            self.check(with_default(TYPES, "any", value), False)
            self.check(with_default(TYPES, "int", value), False)

    def test_no_value_though_its_type_seems_to_write_it(self):
        self.check(with_default(TYPES, "tree", nested(20, [])), False)
        self.check(with_default(TYPES, "text", "A"), False)
        row = {"i": ("integer", 0, 0), "x": ("list", "y", 5, 9), "y": ("list", "z", 5, 9), "z": ("list", "i", 5, 9)}
        self.check(with_default(row, "x", [[[0] * 5] * 5] * 5), True)
        self.check(with_default(row, "x", [[[0] * 9] * 6] * 5), False)

    def test_fallbacks(self):
        cases = (("a", "int"), ("b", "text"), ("c", "c"), ("d", "any"))
        for value in [("a", 0), ("b", "ab"), ("c", ("a", 5)), ("c", ("c", ("b", ""))), ("d", [0] * 298), None]:
            self.check(with_fallback(TYPES, cases, value), True)
        wrong = [
            0, "a", [], {}, {"a": 0}, ["a", 0], ("e", 0), ("aa", 0), ("a", 6), ("a", ""), ("b", "abc"), ("c", 0),
            ("c", ("c", 0)), ("c", ("e", 0)), ("d", [0] * 299), ("d", nested(20, 0)), ("d", 1000001), ("A", 0), (),
            ("a",),
            ("a", 0, 0), False,
        ]
        for value in wrong:
            self.check(with_fallback(TYPES, cases, value), False)
        self.check(with_fallback(TYPES, (("n", "none"),), ("n", {})), False)
        self.check(with_fallback(TYPES, (("c", "c"),), ("c", ("c", ("c", 0)))), False)

    def test_of_definitions_that_use_themselves(self):
        def record(value):
            return Format("r", {"r": ("record", (("f", "r", "default", value),))})

        # Each record of it has the field again, so there is none.
        self.check(record({}), False)
        self.check(record({"f": {}}), False)
        loose = {"l": ("list", "r", 0, 1), "r": ("record", (("f", "l", "default", [{"f": []}]),))}
        self.check(Format("r", loose), True)
        loose["r"] = ("record", (("f", "l", "default", [{}]),))
        self.check(Format("r", loose), False)

    def test_a_wrong_one_that_is_not_reached(self):
        self.check(Format("a", {"a": ("any",), "b": ("record", (("f", "a", "default", None),))}), False)
        self.check(Format("a", {"a": ("integer", 0, 0), "b": ("choice", (("t", "a"),), ("t", 1))}), False)

    def test_several_defaults(self):
        good = ("f", "int", "default", 0)
        for fields in ((good, ("g", "int", "default", 6)), (("e", "int", "default", 6), good)):
            self.check(Format("r", {**TYPES, "r": ("record", fields)}), False)
        self.check(Format("r", {**TYPES, "r": ("record", (good, ("g", "int", "default", 5)))}), True)

    def test_what_is_not_shaped(self):
        for form in [
            Format("b", {"a": ("any",)}), Format("a", {}), Format("a", {"a": ("text", 10)}),
            Format("a", {"a": ("float",)}),
            with_default(TYPES, "nothere", 0), with_fallback(TYPES, (), ("a", 0)),
            with_fallback(TYPES, (("a", "nothere"),), ("a", 0)), Format("a", {"a": ("record", (("f", "a"),))}),
        ]:
            self.check(form, False, shaped=False)

    def test_random_ones(self):
        made = random.Random(5)
        for _ in range(100):
            self.check(random_format(made, made.randint(1, 4)), True)


if __name__ == "__main__":
    unittest.main()
