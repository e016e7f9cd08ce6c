"""Points 5 and 6: the order of values, and the least of some."""

import copy
import itertools
import unittest

from formatfit.values import compare_values, least_of, parts_of, size_of

# Each line is wholly before the next one, and stands in order itself.
ASCENDING = [
    0, 1, -1, 2, -2, 3, -3, 9, -9, 10, 999999, -999999, 1000000, -1000000,
    "", [], {},
    "a", "b", "z",
    [0], [1], [-1], [2], [1000000], [""], [[]], [{}],
    {"a": 0}, {"a": 1}, {"a": -1}, {"a": ""}, {"a": []}, {"a": {}}, {"a1": 0}, {"aa": 0}, {"ab": 0}, {"b": 0},
    ("a", 0), ("a", 1), ("a", -1), ("a", ""), ("a", []), ("a", {}), ("a0", 0), ("aa", 0), ("b", 0), ("ba", 0),
    "aa", "ab", "ba", "zz",
    [0, 0], [0, 1], [0, ""], [0, {}], [1, 0], [1, []], [-1, 0], ["", 0], [{}, {}], ["a"], ["b"], [[0]], [("a", 0)],
    {"a": 0, "b": 0}, {"a": 0, "b": 1}, {"a": 0, "c": 0}, {"a": 1, "b": 0}, {"a": {}, "b": 0}, {"a": "a"},
    {"a": [0]}, {"a": ("a", 0)}, {"b": 0, "c": 0}, {"b": "a"},
    ("a", "a"), ("a", "b"), ("a", [0]), ("a", {"a": 0}), ("a", ("a", 0)), ("b", "a"),
    "aaa", "aab",
    [0, 0, 0], [0, 0, 1], [0, "a"], [0, [0]], [1, 0, 0], ["a", 0], ["aa"], [[0, 0]],
    {"a": 0, "b": 0, "c": 0}, {"a": 0, "b": "a"}, {"a": "a", "b": 0}, {"a": [0], "b": 0}, {"a": "aa"},
    ("a", "aa"), ("a", [0, 0]), ("a", {"a": 0, "b": 0}),
    "aaaa",
]


def values_of_size(size):
    """Values of a size, of few texts, integers and names."""
    if size == 1:
        return [0, 1, -1, 2, "", [], {}]
    made = ["ab"[k] * (size - 1) for k in (0, 1)]
    for parts in rows_of_size(size - 1, 3):
        made.append(parts)
        for names in itertools.combinations("abc", len(parts)):
            made.append(dict(zip(names, parts)))
        if len(parts) == 1:
            made += [(tag, parts[0]) for tag in ("a", "b")]
    return made


def rows_of_size(size, longest):
    if size == 0:
        return [[]]
    if longest == 0:
        return []
    return [
        [first] + rest
        for of_first in range(1, size + 1)
        for rest in rows_of_size(size - of_first, longest - 1)
        for first in values_of_size(of_first)
    ]


class Order(unittest.TestCase):
    def test_a_list_in_order(self):
        for at, first in enumerate(ASCENDING):
            for to, second in enumerate(ASCENDING):
                with self.subTest(first=first, second=second):
                    self.assertEqual(compare_values(first, second), (at > to) - (at < to))

    def test_equal_values(self):
        for value in ASCENDING:
            self.assertEqual(compare_values(value, copy.deepcopy(value)), 0)

    def test_the_order_of_the_fields_of_a_dict_does_not_matter(self):
        self.assertEqual(compare_values({"a": 1, "b": 2}, {"b": 2, "a": 1}), 0)
        self.assertEqual(compare_values({"b": 0, "a": 2}, {"a": 1, "b": -1}), 1)
        self.assertEqual(compare_values({"b": 0, "a": 1}, {"b": 1, "a": 0}), 1)

    def test_size_comes_first(self):
        self.assertEqual(compare_values(-1000000, "a"), -1)
        self.assertEqual(compare_values("aaaa", [0, 0]), 1)
        self.assertEqual(compare_values([0] * 299, "a" * 20), 1)
        self.assertEqual(compare_values([1000000, 1], [0, "a"]), -1)

    def test_proper_beginnings_come_first(self):
        pairs = [
            ([], [0]), ([1], [1, 0]), ([1, "ab"], [1, "ab", 0]), ({}, {"a": 0}), ({"a": 1}, {"a": 1, "b": 0}),
            ({"a": "x", "c": 1}, {"a": "x", "c": 1, "d": 0}), ("", "a"), ("ab", "aba"),
        ]
        for first, second in pairs:
            with self.subTest(first=first, second=second):
                self.assertEqual(compare_values(first, second), -1)
                self.assertEqual(compare_values(second, first), 1)

    def test_names_before_values(self):
        self.assertEqual(compare_values({"a": {}, "c": 0}, {"a": 0, "b": 0}), 1)
        self.assertEqual(compare_values({"a": {}}, {"b": 0}), -1)
        self.assertEqual(compare_values({"a": 0, "c": 0}, {"a": 0, "b": {}}), 1)
        self.assertEqual(compare_values({"aa": {}}, {"b": 0}), -1)
        self.assertEqual(compare_values(("a", {}), ("b", 0)), -1)
        self.assertEqual(compare_values(("aa", {}), ("b", 0)), -1)

    def test_values_above_the_bounds(self):
        self.assertEqual(compare_values([0] * 400, [0] * 399 + [1]), -1)
        self.assertEqual(compare_values(2000000, -2000000), -1)

    def test_no_argument_is_changed(self):
        first = [{"b": 1, "a": [2]}]
        second = [{"b": 1, "a": [3]}]
        self.assertEqual(compare_values(first, second), -1)
        self.assertEqual([list(first[0]), list(second[0])], [["b", "a"], ["b", "a"]])
        self.assertEqual([first, second], [[{"a": [2], "b": 1}], [{"a": [3], "b": 1}]])


class Facts(unittest.TestCase):
    def test_exactly_one_order_and_transitive(self):
        values = [value for size in (1, 2, 3) for value in values_of_size(size)]
        ordered = []
        for value in values:
            place = sum(compare_values(other, value) < 0 for other in ordered)
            ordered.insert(place, value)
        for at, first in enumerate(ordered):
            for to, second in enumerate(ordered):
                self.assertEqual(compare_values(first, second), (at > to) - (at < to))

    def test_only_equal_values_are_equal_in_the_order(self):
        values = [value for size in (1, 2, 3) for value in values_of_size(size)]
        for first, second in itertools.combinations(values, 2):
            self.assertNotEqual(compare_values(first, second), 0)

    def test_a_lesser_part_makes_a_lesser_value(self):
        parts = [value for size in (1, 2, 3) for value in values_of_size(size)]
        for first, second in itertools.combinations(parts[::3], 2):
            order = compare_values(first, second)
            for make in (lambda x: ["a", x, 5], lambda x: {"a": 0, "b": x, "c": "z"}, lambda x: ("t", x)):
                self.assertEqual(compare_values(make(first), make(second)), order)

    def test_a_part_is_before_the_whole(self):
        for value in values_of_size(4):
            self.assertEqual(size_of(value), 4)
            for part in parts_of(value):
                self.assertEqual(compare_values(part, value), -1)


class Least(unittest.TestCase):
    def test_of_nothing(self):
        self.assertIsNone(least_of([]))
        self.assertIsNone(least_of([None]))
        self.assertIsNone(least_of([None, None]))

    def test_of_one(self):
        for value in (0, "", [], {}, ("a", 0), -5):
            self.assertEqual(least_of([value]), value)
            self.assertEqual(least_of([None, value, None]), value)

    def test_of_several(self):
        self.assertEqual(least_of([2, -1, 1]), 1)
        self.assertEqual(least_of([-3, 3, None]), 3)
        self.assertEqual(least_of(["b", None, "a", [0]]), "a")
        self.assertEqual(least_of([("a", 0), {"a": 0}, [0], "a", {}]), {})
        self.assertEqual(least_of([{}, [], "", 0]), 0)
        self.assertEqual(least_of(["", 1000000]), 1000000)
        self.assertEqual(least_of([5, 5, None, 5]), 5)

    def test_wherever_the_least_stands(self):
        for values in itertools.permutations([None, "a", [1], {"a": 0}, "b"]):
            self.assertEqual(least_of(list(values)), "a")

    def test_what_is_returned_is_new_and_ascending(self):
        values = [{"b": [1], "a": {"d": 0, "c": 0}}, "a" * 20]
        least = least_of(values)
        self.assertEqual(least, {"a": {"c": 0, "d": 0}, "b": [1]})
        self.assertEqual(list(least), ["a", "b"])
        self.assertIsNot(least, values[0])
        self.assertEqual(list(values[0]), ["b", "a"])
        rows = [[1], [2]]
        self.assertIsNot(least_of(rows), rows[0])

    def test_the_argument_is_not_changed(self):
        values = [None, [2], None, [1]]
        least_of(values)
        self.assertEqual(values, [None, [2], None, [1]])


if __name__ == "__main__":
    unittest.main()
