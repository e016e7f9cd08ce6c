"""Points 18 to 22 and formatfit/reading.py: reading by a format, failures, and reading along several ones."""

import copy
import itertools
import random
import unittest

from formatfit.errors import TooLarge
from formatfit.formats import Format
from formatfit.reading import read, read_along, read_by
from formatfit.values import depth_of, size_of
from formatfit.writing import is_format, is_written, writes
from listing import Listing, changed_format, in_circles, plain_told, random_format

FORM = Format("rec", {
    "any": ("any",),
    "int": ("integer", -2, 5),
    "text": ("text", 3),
    "ints": ("list", "int", 1, 3),
    "texts": ("list", "text", 0, 2),
    "empty": ("record", ()),
    "rec": ("record", (
        ("a", "int", "required"), ("b", "ints", "optional"), ("c", "texts", "default", ["x", "yz"]),
        ("d", "pick", "required"),
    )),
    "pick": ("choice", (("n", "int"), ("p", "pick"), ("r", "rec")), None),
    "safe": ("choice", (("n", "int"), ("s", "safe")), ("n", 4)),
    "deep": ("list", "safe", 0, 2),
    "recs": ("list", "rec2", 0, 3),
    "rec2": ("record", (("x", "int", "required"), ("y", "safe", "default", ("s", ("n", 1))),
        ("z", "recs", "optional"))),
})

READ = [
    ("any", 0, 0), ("any", "abc", "abc"), ("any", [{"b": 1, "a": ("t", [])}], [{"a": ("t", []), "b": 1}]),
    ("any", 1000000, 1000000), ("any", {}, {}), ("any", ("n", 9), ("n", 9)),
    ("int", -2, -2), ("int", 5, 5), ("int", 0, 0), ("text", "", ""), ("text", "abc", "abc"),
    ("ints", [0], [0]), ("ints", [5, -2, 1], [5, -2, 1]), ("texts", [], []), ("texts", ["abc", ""], ["abc", ""]),
    ("empty", {}, {}), ("empty", {"a": 0, "b": [9, 9]}, {}),
    ("rec", {"a": 1, "b": [2], "c": [], "d": ("n", 0)}, {"a": 1, "b": [2], "c": [], "d": ("n", 0)}),
    ("rec", {"a": 1, "c": ["z"], "d": ("n", 0)}, {"a": 1, "c": ["z"], "d": ("n", 0)}),
    ("rec", {"a": 1, "b": [2], "d": ("n", 0)}, {"a": 1, "b": [2], "c": ["x", "yz"], "d": ("n", 0)}),
    ("rec", {"d": ("n", 0), "a": 1}, {"a": 1, "c": ["x", "yz"], "d": ("n", 0)}),
    ("rec", {"a": 1, "d": ("n", 0), "e": 9999, "aa": "q", "z": {}}, {"a": 1, "c": ["x", "yz"], "d": ("n", 0)}),
    ("rec", {"a": 1, "d": ("r", {"a": 2, "d": ("n", 3), "x": 0})},
     {"a": 1, "c": ["x", "yz"], "d": ("r", {"a": 2, "c": ["x", "yz"], "d": ("n", 3)})}),
    ("pick", ("n", 5), ("n", 5)), ("pick", ("p", ("p", ("n", -2))), ("p", ("p", ("n", -2)))),
    ("safe", ("n", 5), ("n", 5)), ("safe", ("other", 0), ("n", 4)), ("safe", ("other", "q" * 20), ("n", 4)),
    ("safe", ("s", ("other", [])), ("s", ("n", 4))), ("safe", ("s", ("s", ("nn", 0))), ("s", ("s", ("n", 4)))),
    ("deep", [("s", ("q", 1)), ("q", 2)], [("s", ("n", 4)), ("n", 4)]),
    ("recs", [{"x": 1}, {"x": 2, "z": [{"x": 3, "y": ("u", 0)}]}],
     [{"x": 1, "y": ("s", ("n", 1))},
      {"x": 2, "y": ("s", ("n", 1)), "z": [{"x": 3, "y": ("n", 4)}]}]),
]

GOOD = {"a": 1, "c": [], "d": ("n", 0)}

NOT_READ = [
    # The wrong kinds, at the root.
    *[("int", value, "wrong kind", []) for value in ("", "5", [], [1], {}, ("n", 1))],
    *[("text", value, "wrong kind", []) for value in (0, [], ["a"], {}, ("n", "a"))],
    *[("ints", value, "wrong kind", []) for value in (0, "", "abc", {}, ("n", [0]))],
    *[("rec", value, "wrong kind", []) for value in (0, "", [], [0], ("n", GOOD))],
    *[("empty", value, "wrong kind", []) for value in (0, "", [], ("n", {}))],
    *[("pick", value, "wrong kind", []) for value in (0, "n", [], ["n", 0], {}, {"n": 0})],
    *[("safe", value, "wrong kind", []) for value in (0, "n", [], {}, {"n": 0})],
    # The bounds.
    *[("int", value, "out of range", []) for value in (-3, 6, 1000000, -1000000)],
    *[("text", value, "too long", []) for value in ("abcd", "a" * 20)],
    *[("ints", value, "wrong length", []) for value in ([], [0] * 4, [0] * 20, [9] * 4, ["", [], 7, 8])],
    *[("texts", value, "wrong length", []) for value in (["", "", ""], [0, 0, 0], ["abcd"] * 9)],
    # Elements, in their order.
    ("ints", [6], "out of range", [0]), ("ints", [0, 6, 7], "out of range", [1]),
    ("ints", [0, "", 7], "wrong kind", [1]),
    ("ints", [0, 0, 7], "out of range", [2]), ("texts", ["", "abcd"], "too long", [1]),
    ("texts", [0, "abcd"], "wrong kind", [0]),
    ("texts", ["abcd", 0], "too long", [0]),
    # Fields, in their order.
    ("rec", {}, "missing field", ["a"]), ("rec", {"a": 1}, "missing field", ["d"]),
    ("rec", {"d": 0}, "missing field", ["a"]),
    ("rec", {"a": 6}, "out of range", ["a"]), ("rec", {"a": 6, "d": 0}, "out of range", ["a"]),
    ("rec", {"a": 1, "b": []}, "wrong length", ["b"]), ("rec", {"a": 1, "b": [0, 9]}, "out of range", ["b", 1]),
    ("rec", {"a": 1, "c": ["abcd"]}, "too long", ["c", 0]), ("rec", {"a": 1, "c": 0}, "wrong kind", ["c"]),
    ("rec", {"d": ("n", 9), "c": [0], "b": [9], "a": 9}, "out of range", ["a"]),
    ("rec", {"d": ("n", 9), "c": [0], "b": [9], "a": 0}, "out of range", ["b", 0]),
    ("rec", {"d": ("n", 9), "c": [0], "a": 0}, "wrong kind", ["c", 0]),
    ("rec", {"d": ("n", 9), "a": 0}, "out of range", ["d", "$n"]),
    ("rec", {"a": 0, "d": 0}, "wrong kind", ["d"]), ("rec", {"a": 0, "d": ("x", 0)}, "unknown tag", ["d"]),
    ("rec", {"aa": 9, "b": [9], "d": 0}, "missing field", ["a"]),
    ("rec", {"a": 1, "c": [], "aa": 0, "b": [5, 5, 5, 5]}, "wrong length", ["b"]),
    # Choices.
    ("pick", ("x", 0), "unknown tag", []), ("pick", ("nn", 0), "unknown tag", []),
    ("pick", ("n", 6), "out of range", ["$n"]),
    ("pick", ("p", ("x", 0)), "unknown tag", ["$p"]),
    ("pick", ("p", ("p", ("n", ""))), "wrong kind", ["$p", "$p", "$n"]),
    ("pick", ("r", {}), "missing field", ["$r", "a"]), ("safe", ("n", 6), "out of range", ["$n"]),
    ("safe", ("s", 0), "wrong kind", ["$s"]), ("safe", ("s", ("n", "")), "wrong kind", ["$s", "$n"]),
    # Deep within.
    ("deep", [("q", 0), ("s", ("s", ("n", -3)))], "out of range", [1, "$s", "$s", "$n"]),
    ("rec", {"a": 0, "d": ("r", {"a": 0, "d": ("p", ("r", {"a": 0}))})}, "missing field",
        ["d", "$r", "d", "$p", "$r", "d"]),
    ("rec", {"a": 0, "d": ("r", {"a": 0, "b": [1, 2, "x"]})}, "wrong kind", ["d", "$r", "b", 2]),
    ("recs", [{"x": 0}, {"x": 0, "z": [{"x": 1}, {"x": 0, "z": [0]}]}], "wrong kind", [1, "z", 1, "z", 0]),
    ("recs", [{"x": 0}, {"x": 0, "z": [{"x": 1}, {"z": [0]}]}], "missing field", [1, "z", 1, "x"]),
    ("recs", [{"x": 0}, {"x": 0, "z": [{"x": 1}] * 4}], "wrong length", [1, "z"]),
    ("recs", [{"x": 0, "y": ("n", 9)}, {}], "out of range", [0, "y", "$n"]),
]


def ascending(value):
    """Whether all records within a value have ascending names."""
    if isinstance(value, dict):
        return list(value) == sorted(value) and all(ascending(part) for part in value.values())
    if isinstance(value, (list, tuple)):
        return all(ascending(part) for part in value)
    return True


class ByDefinitions(unittest.TestCase):
    def check(self, form, name, value, told):
        with self.subTest(name=name, value=value):
            before = copy.deepcopy(value)
            made = read_by(form, name, value)
            self.assertEqual(made, told)
            self.assertEqual(made, plain_told(form, name, value))
            self.assertEqual(read(Format(name, form.definitions), value), told)
            self.assertIs(type(made), tuple)
            self.assertEqual(repr(value), repr(before))
            if made[0] == "value":
                self.assertTrue(writes(form, name, made[1]))
                self.assertTrue(ascending(made[1]))
            else:
                self.assertIs(type(made[2]), list)

    def test_it_is_a_format(self):
        self.assertTrue(is_format(FORM))

    def test_what_is_read(self):
        for name, value, made in READ:
            self.check(FORM, name, value, ("value", made))

    def test_what_is_not_read(self):
        for name, value, reason, path in NOT_READ:
            self.check(FORM, name, value, ("failure", reason, path))

    def test_the_same_within_others(self):
        rows = [
            (("list", "in", 1, 2), lambda value: [value], [0]),
            (("record", (("f", "in", "required"),)), lambda value: {"f": value, "e": 0}, ["f"]),
            (("record", (("f", "in", "optional"), ("g", "any", "required"))), lambda value: {"f": value, "g": 0},
                ["f"]),
            (("choice", (("t", "in"),), None), lambda value: ("t", value), ["$t"]),
        ]
        for definition, wrap, ahead in rows:
            for name, value, reason, path in NOT_READ:
                form = Format("out", {**FORM.definitions, "in": FORM.of(name), "out": definition})
                self.check(form, "out", wrap(value), ("failure", reason, ahead + path))
            for name, value, made in READ:
                form = Format("out", {**FORM.definitions, "in": FORM.of(name), "out": definition})
                made = wrap(made)
                if isinstance(made, dict):
                    made.pop("e", None)
                self.check(form, "out", wrap(value), ("value", made))

    def test_a_dropped_field_never_fails(self):
        form = Format("r", {"r": ("record", (("b", "i", "required"),)), "i": ("integer", 0, 0)})
        for value in (1000000, "abc", [], {"b": 9}, ("b", 9)):
            self.check(form, "r", {"a": value, "b": 0, "c": value}, ("value", {"b": 0}))

    def test_an_unknown_tag_with_a_fallback_never_fails(self):
        form = Format("c", {"c": ("choice", (("b", "i"),), ("b", 0)), "i": ("integer", 0, 0)})
        for value in (1000000, "abc", [], {"b": 9}, ("b", 9)):
            self.check(form, "c", ("a", value), ("value", ("b", 0)))
            self.check(form, "c", ("c", value), ("value", ("b", 0)))

    def test_deep_values(self):
        form = Format("l", {"l": ("list", "l", 0, 1), "r": ("record", (("a", "r", "optional"), ("b", "i", "optional"))),
                            "i": ("integer", 0, 0)})
        lists, records, wrong = [], {}, {"b": 1}
        for _ in range(280):
            lists, records, wrong = [lists], {"a": records}, {"a": wrong}
        self.assertEqual(read(form, lists), ("value", lists))
        self.assertEqual(read_by(form, "r", records), ("value", records))
        self.assertEqual(read_by(form, "r", wrong), ("failure", "out of range", ["a"] * 280 + ["b"]))


class NewValues(unittest.TestCase):
    def test_what_is_changed_in_the_outcome(self):
        value = {"a": 1, "b": [2], "d": ("n", 0)}
        made = read(FORM, value)[1]
        made["b"].append(7)
        made["c"].append("q")
        made["e"] = 0
        self.assertEqual(value, {"a": 1, "b": [2], "d": ("n", 0)})
        self.assertEqual(read(FORM, value)[1], {"a": 1, "b": [2], "c": ["x", "yz"], "d": ("n", 0)})

    def test_any_and_a_fallback(self):
        form = Format("c", {"c": ("choice", (("a", "x"),), ("a", {"b": [0], "a": 1})), "x": ("any",)})
        value = {"b": [1], "a": {"d": 0, "c": 0}}
        made = read(form, ("a", value))[1][1]
        self.assertEqual(made, value)
        self.assertEqual([list(made), list(made["a"])], [["a", "b"], ["c", "d"]])
        made["b"].append(5)
        fallback = read(form, ("z", 0))[1][1]
        self.assertEqual(list(fallback), ["a", "b"])
        fallback["b"].append(5)
        self.assertEqual(read(form, ("z", 0)), ("value", ("a", {"a": 1, "b": [0]})))
        self.assertEqual([list(value), value["b"]], [["b", "a"], [1]])

    def test_a_path_is_new(self):
        told = read(FORM, {"a": 9})
        told[2].append("x")
        self.assertEqual(read(FORM, {"a": 9}), ("failure", "out of range", ["a"]))

    def test_the_format_stays(self):
        before = copy.deepcopy(FORM.definitions)
        for name, value, _ in READ:
            read_by(FORM, name, value)
        self.assertEqual(FORM.definitions, before)


class Facts(unittest.TestCase):
    def test_random_ones_beside_a_plain_reader(self):
        made = random.Random(29)
        for _ in range(300):
            writer = random_format(made, made.randint(1, 4))
            reader = changed_format(made, writer) if made.random() < 0.7 else random_format(made, made.randint(1, 4))
            for value in Listing(writer).up_to(writer.root, 4)[:300]:
                told = read(reader, value)
                self.assertEqual(told, plain_told(reader, reader.root, value))
                if told[0] == "value":
                    self.assertTrue(is_written(reader, told[1]))
                    self.assertEqual(read(reader, told[1]), told)
                # What it writes is what it reads as it is.
                self.assertEqual(told == ("value", value), is_written(reader, value))
                self.assertEqual(read(writer, value), ("value", value))


def filling(many, root="r"):
    """A format whose records get a field with a list of so many integers if they have none."""
    return Format(root, {
        "any": ("any",), "i": ("integer", 0, 0), "rs": ("list", "r", 0, 9),
        "r": ("record", (("f", "any", "default", [0] * many), ("g", "any", "optional"))),
    })


class Sizes(unittest.TestCase):
    def test_at_the_bound_and_above(self):
        self.assertEqual(read(filling(298), {}), ("value", {"f": [0] * 298}))
        self.assertEqual(size_of(read(filling(298), {})[1]), 300)
        self.assertRaises(TooLarge, read, filling(299), {})
        self.assertEqual(read_by(filling(299), "r", {}), ("value", {"f": [0] * 299}))
        self.assertRaises(TooLarge, read, filling(298), {"g": 0})
        self.assertEqual(read(filling(298), {"g": 0, "f": 1}), ("value", {"f": 1, "g": 0}))

    def test_a_field_above_the_bound_that_is_dropped(self):
        form = Format("r", {"any": ("any",), "r": ("record", (("f", "any", "default", [0] * 298),))})
        self.assertEqual(read(form, {"g": [0] * 200}), ("value", {"f": [0] * 298}))

    def test_many_defaults(self):
        form = filling(200, "rs")
        made = [{"f": [0] * 200}] * 9
        self.assertRaises(TooLarge, read, form, [{}] * 9)
        self.assertEqual(read_by(form, "rs", [{}] * 9), ("value", made))
        self.assertEqual(read(form, [{}]), ("value", made[:1]))
        self.assertRaises(TooLarge, read, form, [{}] * 2)

    def test_a_failure_behind_too_much(self):
        form = filling(200, "rs")
        self.assertEqual(read(form, [{}] * 8 + [0]), ("failure", "wrong kind", [8]))
        self.assertEqual(read_by(form, "rs", [{}] * 8 + [0]), ("failure", "wrong kind", [8]))


def renaming(*steps):
    """Formats of which each adds a field with a default, and drops what it does not know."""
    return [
        Format("r", {"any": ("any",), "r": ("record",
            tuple((name, "any", "default", worth) for name, worth in fields))})
        for fields in steps
    ]


class Along(unittest.TestCase):
    def test_values(self):
        one = renaming([("a", 1)])
        two = renaming([("a", 1)], [("a", 2), ("b", "x")])
        self.assertEqual(read_along(one, {}), ("value", {"a": 1}, 1))
        self.assertEqual(read_along(two, {}), ("value", {"a": 1, "b": "x"}, 2))
        self.assertEqual(read_along(two, {"a": 5, "b": 6}), ("value", {"a": 5, "b": "x"}, 2))
        self.assertEqual(read_along(two[::-1], {}), ("value", {"a": 2}, 2))
        self.assertEqual(read_along(two * 5, {"a": 0}), ("value", {"a": 0, "b": "x"}, 10))
        self.assertIs(type(read_along(one, {})), tuple)

    def test_no_format(self):
        value = {"b": [1], "a": 0}
        self.assertEqual(read_along([], value), ("value", value, 0))
        self.assertEqual(list(read_along([], value)[1]), ["a", "b"])
        self.assertIsNot(read_along([], value)[1], value)

    def test_failures(self):
        ranges = [Format("i", {"i": ("integer", 0, most)}) for most in (9, 7, 5)]
        self.assertEqual(read_along(ranges, 5), ("value", 5, 3))
        self.assertEqual(read_along(ranges, 6), ("failure", "out of range", [], 2))
        self.assertEqual(read_along(ranges, 8), ("failure", "out of range", [], 1))
        self.assertEqual(read_along(ranges, 10), ("failure", "out of range", [], 0))
        self.assertEqual(read_along(ranges[::-1], 6), ("failure", "out of range", [], 0))
        self.assertEqual(read_along([FORM], {"a": 1, "d": ("x", 0)}), ("failure", "unknown tag", ["d"], 0))
        self.assertEqual(read_along([FORM, FORM, *ranges], {"a": 1, "d": ("n", 0)}), ("failure", "wrong kind", [], 2))

    def test_a_failure_of_what_was_made(self):
        made = Format("r", {"any": ("any",), "r": ("record", (("f", "any", "default", [[0, 0], [5]]),))})
        strict = Format("r", {"i": ("integer", 0, 4), "l": ("list", "i", 0, 9), "ls": ("list", "l", 0, 9),
                              "r": ("record", (("f", "ls", "required"),))})
        self.assertEqual(read_along([made, strict], {}), ("failure", "out of range", ["f", 1, 0], 1))
        self.assertEqual(read_along([strict, made], {}), ("failure", "missing field", ["f"], 0))

    def test_too_large_values(self):
        large, small = [0] * 299, [0] * 298
        first = renaming([("a", large)], [("b", 0)])
        self.assertRaises(TooLarge, read_along, first, {})
        self.assertEqual(read_along(first, {"a": 0}), ("value", {"b": 0}, 2))
        later = renaming([("a", small)], [("a", 0), ("b", 0)], [("b", 0)])
        self.assertRaises(TooLarge, read_along, later, {})
        self.assertEqual(read_along([later[0], later[2]], {}), ("value", {"b": 0}, 2))
        not_at_all = renaming([("a", small)], [("b", small)], [("c", small)])
        self.assertEqual(read_along(not_at_all, {}), ("value", {"c": small}, 3))

    def test_too_large_ahead_of_a_failure_and_behind_one(self):
        number = Format("i", {"i": ("integer", 0, 0)})
        large = renaming([("a", [0] * 299)])[0]
        self.assertRaises(TooLarge, read_along, [large, number], {})
        self.assertEqual(read_along([number, large], {}), ("failure", "wrong kind", [], 0))

    def test_what_is_made_may_be_deeper_than_what_is_passed_in(self):
        def nested(value, depth):
            for _ in range(depth):
                value = [value]
            return value

        cases = (("l", "l"), ("x", "any"))
        form = Format("l", {"l": ("list", "c", 0, 1), "any": ("any",), "c": ("choice", cases, ("x", nested(0, 19)))})
        value, made = ("z", 0), ("x", nested(0, 19))
        for _ in range(9):
            value, made = ("l", [value]), ("l", [made])
        self.assertEqual(depth_of([value]), 20)
        self.assertEqual(read(form, [value]), ("value", [made]))
        self.assertEqual(read_along([form] * 3, [value]), ("value", [made], 3))
        self.assertEqual(depth_of([made]), 39)

    def test_arguments_stay(self):
        value = {"b": 1, "a": [2]}
        forms = renaming([("a", 1)], [("a", 2), ("b", "x")])
        given = list(forms)
        made = read_along(forms, value)[1]
        made["a"].append(3)
        self.assertEqual(list(value.items()), [("b", 1), ("a", [2])])
        self.assertEqual(forms, given)


class GreatFormats(unittest.TestCase):
    def test_twelve_definitions_in_circles(self):
        form = in_circles(["optional"] * 4, 0)
        for name, size in itertools.product(form.names(), range(1, 6)):
            for value in Listing(form).of_size(name, size)[:100]:
                self.assertEqual(read_by(form, name, value), ("value", value))
        self.assertEqual(read(form, {"a": ("b", {"a": ("x", 0)})}),
            plain_told(form, "n00", {"a": ("b", {"a": ("x", 0)})}))


if __name__ == "__main__":
    unittest.main()
