"""Points 2, 3 and 4: names, values and their bounds, sizes, depths and parts."""

import copy
import unittest

from formatfit.values import copy_of, depth_of, is_name, is_value, kind_of, parts_of, size_of, sorted_fields


def nested(depth, inner=0):
    """A value with this many lists around another one."""
    for _ in range(depth):
        inner = [inner]
    return inner


def wrappings(value):
    """Values that have the value as a part, in each of the three ways and in two at once."""
    return [[value], [0, value], [value, 0], {"a": value}, {"a": 0, "b": value}, ("a", value), [{"a": ("b", value)}]]


GOOD_NAMES = ["a", "z", "a0", "a9", "abcdefgh", "a1234567", "z9z9z9z9", "root"]
BAD_NAMES = [
    "", "abcdefghi", "a12345678", "0", "9a", "1abc", "A", "aB", "abC", "a_b", "_a", "a b", " a", "a ", "a-b", "-",
    "a\n", "\u00e9", "a\u00e9", "\u00df", "a\u0660", "a\u00b2", "\uff41", "a.b", "a\"",
]


class Names(unittest.TestCase):
    def test_names(self):
        for text in GOOD_NAMES:
            with self.subTest(text=text):
                self.assertIs(is_name(text), True)

    def test_others(self):
        for text in BAD_NAMES:
            with self.subTest(text=text):
                self.assertIs(is_name(text), False)

    def test_all_single_characters(self):
        for code in range(256):
            sign = chr(code)
            with self.subTest(code=code):
                self.assertEqual(is_name(sign), sign in "abcdefghijklmnopqrstuvwxyz")
                self.assertEqual(is_name("a" + sign), sign in "abcdefghijklmnopqrstuvwxyz0123456789")


class Kinds(unittest.TestCase):
    def test_kinds(self):
        kinds = [
            (0, 0), (-1000000, 0), ("", 1), ("abc", 1), ([], 2), ([("a", 1)], 2), ({}, 3), ({"a": []}, 3),
            (("a", 0), 4), (("a", ("b", {})), 4),
        ]
        for value, kind in kinds:
            with self.subTest(value=value):
                self.assertEqual(kind_of(value), kind)


class Sizes(unittest.TestCase):
    def test_sizes(self):
        sizes = [
            (0, 1), (-1000000, 1), (1000000, 1), ("", 1), ("a", 2), ("a" * 20, 21), ([], 1), ({}, 1),
            ([0], 2), ([[]], 2), (["abc", 5], 6), ({"a": 0}, 2), ({"abcdefgh": 0}, 2), ({"a": "xy", "b": []}, 5),
            (("a", 0), 2), (("abcdefgh", 0), 2), (("a", "b"), 3), (("a", ("b", [])), 3),
            ([{"a": 1, "b": ("c", "de")}, []], 8),
        ]
        for value, size in sizes:
            with self.subTest(value=value):
                self.assertEqual(size_of(value), size)

    def test_above_the_bound(self):
        self.assertEqual(size_of([0] * 299), 300)
        self.assertEqual(size_of([0] * 300), 301)
        self.assertEqual(size_of(["a" * 30]), 32)
        self.assertEqual(size_of(nested(40)), 41)


class Depths(unittest.TestCase):
    def test_depths(self):
        depths = [
            (0, 0), (-5, 0), ("", 0), ("abc", 0), ([], 1), ({}, 1), ([1, 2], 1), ({"a": 0}, 1), (("a", 0), 1),
            ([[]], 2), ([{}], 2), ({"a": {}}, 2), (("a", []), 2), (("a", ("b", "c")), 2), ([0, [1, [2]], [3]], 3),
            ({"a": 0, "b": [("c", 1)], "c": []}, 3), ([[[]], []], 3), ([[], [[]]], 3),
        ]
        for value, depth in depths:
            with self.subTest(value=value):
                self.assertEqual(depth_of(value), depth)

    def test_at_the_bound_and_above(self):
        self.assertEqual(depth_of(nested(20)), 20)
        self.assertEqual(depth_of(nested(21)), 21)
        self.assertEqual(depth_of(nested(19, {})), 20)
        self.assertEqual(depth_of(nested(300)), 300)


class Fields(unittest.TestCase):
    def test_sorted_fields(self):
        self.assertEqual(sorted_fields({}), [])
        self.assertEqual(sorted_fields({"a": 1}), [("a", 1)])
        record = {"b": 1, "a10": [], "a": "x", "ab": {}, "a9": 0}
        self.assertEqual(sorted_fields(record), [("a", "x"), ("a10", []), ("a9", 0), ("ab", {}), ("b", 1)])

    def test_fields_with_equal_values_and_with_values_of_all_kinds(self):
        record = {"e": 0, "d": "", "c": [], "b": {}, "a": ("a", 0)}
        self.assertEqual(sorted_fields(record), [("a", ("a", 0)), ("b", {}), ("c", []), ("d", ""), ("e", 0)])
        self.assertEqual(sorted_fields({"b": {}, "a": {}}), [("a", {}), ("b", {})])

    def test_kinds_of_what_is_returned(self):
        fields = sorted_fields({"b": 1, "a": 2})
        self.assertIs(type(fields), list)
        self.assertTrue(all(type(field) is tuple for field in fields))


class Parts(unittest.TestCase):
    def test_parts(self):
        parts = [
            (0, []), (-7, []), ("", []), ("abc", []), ([], []), ([3, 1, 2], [3, 1, 2]), ([[1], "a"], [[1], "a"]),
            ({}, []), ({"b": 1, "a": "x", "a1": []}, ["x", [], 1]), (("a", 0), [0]), (("a", ("b", 1)), [("b", 1)]),
            (("a", []), [[]]),
        ]
        for value, expected in parts:
            with self.subTest(value=value):
                self.assertEqual(parts_of(value), expected)
                self.assertIs(type(parts_of(value)), list)

    def test_the_list_is_new(self):
        value = [1, 2]
        parts_of(value).append(3)
        self.assertEqual(value, [1, 2])


class WithinBounds(unittest.TestCase):
    def check(self, value, expected):
        with self.subTest(value=value):
            self.assertIs(is_value(value), expected)

    def check_also_within_others(self, value, expected):
        self.check(value, expected)
        for outer in wrappings(value):
            self.check(outer, expected)

    def test_integers(self):
        for value in (0, 1, -1, 999999, -999999, 1000000, -1000000):
            self.check_also_within_others(value, True)
        for value in (1000001, -1000001, 10 ** 30):
            self.check_also_within_others(value, False)

    def test_texts(self):
        for value in ("", "a", "z", "abc", "a" * 20):
            self.check_also_within_others(value, True)
        for value in ("a" * 21, "a" * 100, "A", "aBc", "a b", " ", "a1", "1", "a\"", "\u00e9", "a\n", "-"):
            self.check_also_within_others(value, False)

    def test_lists(self):
        for value in ([], [0], [[], {}, "", ("a", 0)], [0] * 200):
            self.check_also_within_others(value, True)

    def test_record_names(self):
        for name in GOOD_NAMES:
            self.check_also_within_others({name: 0}, True)
        for name in BAD_NAMES:
            self.check_also_within_others({name: 0}, False)
            self.check_also_within_others({"a": 0, name: 0}, False)

    def test_numbers_of_fields(self):
        for many in (0, 1, 2, 7, 8):
            self.check_also_within_others({"f" + str(k): 0 for k in range(many)}, True)
        for many in (9, 10):
            self.check_also_within_others({"f" + str(k): 0 for k in range(many)}, False)

    def test_fields_in_any_order(self):
        self.check_also_within_others({"b": 0, "a": 0, "ab": 1}, True)

    def test_tags(self):
        for name in GOOD_NAMES:
            self.check_also_within_others((name, 0), True)
        for name in BAD_NAMES:
            self.check_also_within_others((name, 0), False)

    def test_depth(self):
        self.check(nested(20), True)
        self.check(nested(21), False)
        self.check(nested(19, []), True)
        self.check(nested(20, []), False)
        for inner in ({}, ("a", 0), {"a": 0}):
            self.check(nested(19, inner), True)
            self.check(nested(20, inner), False)
        for outer in wrappings(nested(17)):
            self.check(outer, True)
        for outer in wrappings(nested(20)):
            self.check(outer, False)
        self.check([0, nested(19), 0], True)
        self.check([0, nested(20), 0], False)
        self.check(nested(290), False)

    def test_depth_of_records_and_choices(self):
        record = choice = 0
        for _ in range(20):
            record, choice = {"a": record}, ("a", choice)
        self.check(record, True)
        self.check(choice, True)
        self.check({"a": record}, False)
        self.check(("a", choice), False)

    def test_size(self):
        self.check([0] * 299, True)
        self.check([0] * 300, False)
        self.check(["a" * 20] * 14, True)
        self.check(["a" * 20] * 14 + ["abc"], True)
        self.check(["a" * 20] * 14 + ["abcd"], True)
        self.check(["a" * 20] * 14 + ["abcd"] + [0], False)
        self.check([[0] * 298], True)
        self.check([[0] * 299], False)
        self.check({"a": [0] * 298}, True)
        self.check({"a": [0] * 299}, False)
        self.check(("a", [0] * 298), True)
        self.check(("a", [0] * 299), False)
        self.check([[0] * 148, [0] * 149], True)
        self.check([[0] * 149, [0] * 149], False)

    def test_what_has_another_form(self):
        for value in (("a", 0, 1), ("a",), (), (1, 2), (["a"], 2), True, False, None, 1.0, b"a", {1: 0}):
            self.check(value, False)
            self.check([value], False)


class ArgumentsStay(unittest.TestCase):
    def test_nothing_is_changed(self):
        value = [{"b": [2, 1], "a": ("x", {"d": 0, "c": "y"})}, [], {}]
        before = copy.deepcopy(value)
        for ask in (kind_of, size_of, depth_of, is_value, parts_of, copy_of):
            ask(value)
            ask(value[0])
        sorted_fields(value[0])
        self.assertEqual(value, before)
        self.assertEqual(list(value[0]), ["b", "a"])
        self.assertEqual(list(value[0]["a"][1]), ["d", "c"])

    def test_a_copy_is_equal_and_new_and_ascending(self):
        value = [{"b": [2, 1], "a": ("x", {"d": 0, "c": "y"})}, 7, "abc"]
        made = copy_of(value)
        self.assertEqual(made, value)
        self.assertEqual(list(made[0]), ["a", "b"])
        self.assertEqual(list(made[0]["a"][1]), ["c", "d"])
        made[0]["b"].append(3)
        self.assertEqual(value[0]["b"], [2, 1])


if __name__ == "__main__":
    unittest.main()
