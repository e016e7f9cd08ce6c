"""Point 10 and formatfit/formats.py: what a format consists of, and whether it has the form of one."""

import copy
import unittest

from formatfit.formats import Format, always_types, case_of, field_of, is_always, is_shaped, types_of

RECORD = ("record", (("a", "x", "required"), ("b", "y", "optional"), ("c", "z", "default", [0]),
    ("d", "x", "required")))
CHOICE = ("choice", (("a", "x"), ("b", "y"), ("c", "x")), ("a", 0))
OTHERS = [("any",), ("integer", 0, 1), ("text", 3), ("list", "a", 0, 1)]


def with_definition(definition):
    """A format of which this definition is one, with the types a, b, c and d."""
    return Format("a", {"a": ("any",), "b": ("any",), "c": ("text", 1), "d": definition})


def numbered(many):
    return {"d" + str(at): ("any",) for at in range(many)}


def fields(names):
    return ("record", tuple((name, "a", "required") for name in names))


def cases(tags):
    return ("choice", tuple((tag, "a") for tag in tags), None)


class Formats(unittest.TestCase):
    def test_fields_and_names(self):
        definitions = {"b": ("any",), "a": ("list", "b", 0, 1), "a1": ("text", 0)}
        form = Format("b", definitions)
        self.assertEqual(form.root, "b")
        self.assertEqual(form.definitions, definitions)
        self.assertEqual(form.names(), ["a", "a1", "b"])
        self.assertIs(type(form.names()), list)
        self.assertEqual(form.of("a"), ("list", "b", 0, 1))
        self.assertEqual(form.of("b"), ("any",))

    def test_the_dict_is_new(self):
        definitions = {"a": ("any",)}
        form = Format("a", definitions)
        self.assertIsNot(form.definitions, definitions)
        definitions["b"] = ("any",)
        self.assertEqual(form.names(), ["a"])
        form.names().append("c")
        self.assertEqual(form.names(), ["a"])

    def test_what_is_no_format_can_be_made(self):
        form = Format("nothere", {})
        self.assertEqual([form.root, form.definitions, form.names()], ["nothere", {}, []])

    def test_more_definitions_than_a_format_has(self):
        self.assertEqual(len(Format("d0", numbered(40)).names()), 40)


class Parts(unittest.TestCase):
    def test_types(self):
        expected = [
            (("any",), []), (("integer", 0, 1), []), (("text", 3), []), (("list", "a", 0, 1), ["a"]),
            (("record", ()), []), (RECORD, ["x", "y", "z", "x"]), (CHOICE, ["x", "y", "x"]),
            (("choice", (("b", "z"), ("c", "a")), None), ["z", "a"]),
        ]
        for definition, types in expected:
            with self.subTest(definition=definition):
                self.assertEqual(types_of(definition), types)
                self.assertIs(type(types_of(definition)), list)

    def test_fields(self):
        for field in RECORD[1]:
            self.assertEqual(field_of(RECORD, field[0]), field)
        for name in ("e", "", "aa", "x", "record"):
            self.assertIsNone(field_of(RECORD, name))
        self.assertIsNone(field_of(("record", ()), "a"))
        for definition in [*OTHERS, CHOICE]:
            self.assertIsNone(field_of(definition, "a"))

    def test_cases(self):
        self.assertEqual([case_of(CHOICE, tag) for tag in "abc"], ["x", "y", "x"])
        for tag in ("d", "", "aa", "x", "choice"):
            self.assertIsNone(case_of(CHOICE, tag))
        for definition in [*OTHERS, RECORD]:
            self.assertIsNone(case_of(definition, "a"))

    def test_what_is_always_written(self):
        self.assertEqual([is_always(field) for field in RECORD[1]], [True, False, True, True])
        self.assertEqual(always_types(RECORD), ["x", "z", "x"])
        self.assertEqual(always_types(("record", ())), [])
        self.assertEqual(always_types(("record", (("a", "x", "optional"),))), [])
        self.assertEqual(always_types(("record", (("a", "x", "default", None),))), ["x"])
        self.assertIs(type(always_types(RECORD)), list)
        for definition in [*OTHERS, CHOICE]:
            self.assertEqual(always_types(definition), [])

    def test_arguments_stay(self):
        before = copy.deepcopy(RECORD)
        types_of(RECORD).append("more")
        always_types(RECORD).append("more")
        self.assertEqual(RECORD, before)
        self.assertEqual(types_of(RECORD), ["x", "y", "z", "x"])


SHAPED = [
    ("any",), ("integer", 0, 0), ("integer", -999999, 999999), ("integer", -999999, -999999),
    ("integer", 999999, 999999),
    ("integer", -1, 0), ("text", 0), ("text", 9), ("list", "a", 0, 0), ("list", "a", 0, 9), ("list", "a", 9, 9),
    ("list", "d", 1, 2), ("list", "d", 3, 3), ("record", ()), fields("a"), fields("abcd"), fields(["abcdefgh"]),
    fields(["a", "a0", "aa", "b"]), ("record", (("a", "d", "required"),)), ("record", (("z9", "b", "optional"),)),
    ("record", (("a", "b", "default", 0), ("b", "d", "optional"))), cases("a"), cases("abcd"), cases(["abcdefgh"]),
    cases(["a", "a0", "aa", "b"]), ("choice", (("a", "d"),), None),
]

# Wrong only in values, which are not looked at.
SHAPED_BUT_FOR_VALUES = [
    ("record", (("a", "c", "default", 5),)), ("record", (("a", "c", "default", "aa"),)),
    ("record", (("a", "a", "default", 9999999),)), ("record", (("a", "a", "default", None),)),
    ("record", (("a", "d", "default", {}),)),
    ("choice", (("a", "c"),), ("b", "")), ("choice", (("a", "c"),), ("a", 0)), ("choice", (("a", "c"),), 0),
    ("choice", (("a", "c"),), "a"), ("choice", (("a", "c"),), ("a", "A")), ("choice", (("a", "c"),), {}),
]

NOT_SHAPED = [
    # Integers.
    ("integer", 1, 0), ("integer", -1, -2), ("integer", -1000000, 0), ("integer", 0, 1000000), ("integer", 0),
    ("integer", 1000000, 1000000), ("integer", -1000000, -1000000), ("integer",), ("integer", 0, 1, 2),
    ("integer", 999999, -999999), ("integer", "0", "1"),
    # Texts.
    ("text", -1), ("text", 10), ("text",), ("text", 1, 2), ("text", "a"),
    # Lists.
    ("list", "a", 1, 0), ("list", "a", 9, 8), ("list", "a", 0, 10), ("list", "a", 10, 10), ("list", "a", -1, 0),
    ("list", "a", -1, -1), ("list", "a", 0), ("list", "a"), ("list",), ("list", "e", 0, 1), ("list", "", 0, 1),
    ("list", "a", 0, 1, 2), ("list", 0, 1),
    # Records.
    fields("abcde"), fields("aa"), fields("ba"), fields("abdc"), fields("abb"), fields(["abcdefghi"]), fields(["A"]),
    fields([""]), fields(["0"]), fields(["a_b"]), fields(["aa", "a0"]), ("record",), ("record", (), ()),
    ("record", (("a", "e", "required"),)), ("record", (("a", "e", "optional"),)),
    ("record", (("a", "e", "default", 0),)), ("record", (("a", "b", "other"),)), ("record", (("a", "b"),)),
    ("record", (("a", "b", "default"),)), ("record", (("a", "b", "default", 0, 0),)), ("record", (("a",),)),
    ("record", (("a", "b", "required", 0),)), ("record", (("a", "b", "optional", 0),)),
    ("record", (("a", "b", "required"), ("b", "e", "required"))), ("record", (("a", "b", ""),)),
    # Choices.
    cases(""), cases("abcde"), cases("aa"), cases("ba"), cases("acb"), cases(["abcdefghi"]), cases(["A"]), cases([""]),
    cases(["9"]), cases(["ab", "a0"]), ("choice", (("a", "e"),), None), ("choice", (("a", "a"),)), ("choice",),
    ("choice", (("a",),), None), ("choice", (("a", "a", "a"),), None), ("choice", (("a", "a"), ("b", "e")), None),
    ("choice", (("a", "a"),), None, None), ("choice", (), ("a", 0)),
    # Others.
    ("any", 0), ("any", "a"), (), ("float",), ("Any",), ("",), ("required",), ("record ", ()),
    ("other", (("a", "a"),), None), ("other", ()), ("other", "a", 0, 1), ("other", 0, 1), ("other", 1),
    # Lists in place of tuples.
    ["any"], ["integer", 0, 1], ("record", []), ("record", [("a", "a", "required")]),
    ("record", (["a", "a", "optional"],)),
    ("choice", [("a", "a")], None), ("choice", (["a", "a"],), None),
]


class Shapes(unittest.TestCase):
    def check(self, form, expected):
        with self.subTest(root=form.root, definitions=form.definitions):
            self.assertIs(is_shaped(form), expected)

    def test_definitions(self):
        for definition in SHAPED + SHAPED_BUT_FOR_VALUES:
            self.check(with_definition(definition), True)
        for definition in NOT_SHAPED:
            self.check(with_definition(definition), False)

    def test_a_definition_that_is_not_reached_counts(self):
        self.check(Format("a", {"a": ("any",), "b": ("text", 10)}), False)
        self.check(Format("a", {"b": ("text", 10), "a": ("any",)}), False)
        self.check(Format("a", {"a": ("any",), "b": ("list", "c", 0, 1)}), False)

    def test_numbers_of_definitions(self):
        for many in (1, 2, 11, 12):
            self.check(Format("d0", numbered(many)), True)
        for many in (13, 14, 40):
            self.check(Format("d0", numbered(many)), False)
        self.check(Format("a", {}), False)

    def test_the_root(self):
        for root in ("b", "", "aa", "A"):
            self.check(Format(root, {"a": ("any",)}), False)
        self.check(Format("any", {"any": ("any",)}), True)

    def test_names_of_definitions(self):
        for name in ("a", "z", "a0", "abcdefgh", "a1234567", "root", "record", "optional", "default"):
            self.check(Format(name, {name: ("any",)}), True)
            self.check(Format("b", {"b": ("any",), name: ("list", name, 0, 1)}), True)
        for name in ("", "abcdefghi", "a12345678", "A", "aB", "0", "9a", "a_b", " a", "a ", "a-b", "\u00e9"):
            self.check(Format(name, {name: ("any",)}), False)
            self.check(Format("b", {"b": ("any",), name: ("any",)}), False)

    def test_definitions_that_use_themselves(self):
        self.check(Format("a", {"a": ("list", "a", 0, 9)}), True)
        self.check(Format("a", {"a": ("list", "b", 1, 1), "b": ("choice", (("t", "a"),), None)}), True)
        self.check(Format("a", {"a": ("record", (("a", "a", "required"), ("b", "a", "optional")))}), True)

    def test_the_argument_stays(self):
        definitions = {"b": RECORD, "a": ("any",)}
        form = Format("b", definitions)
        is_shaped(form)
        self.assertEqual(list(form.definitions.items()), [("b", RECORD), ("a", ("any",))])


if __name__ == "__main__":
    unittest.main()
