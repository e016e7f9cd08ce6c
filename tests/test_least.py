"""Points 16 and 17 and formatfit/least.py: definitions without values, least and second values."""

import copy
import random
import unittest

from formatfit.errors import TooLarge
from formatfit.formats import Format
from formatfit.least import has_values, least_of_name, least_value, least_values, names_without_values, second_of_name
from formatfit.least import second_value, second_values
from formatfit.values import compare_values, size_of
from formatfit.writing import is_format, writes
from listing import CIRCLE, Listing, in_circles, random_format, sized

EMPTY = Format("loop", {
    "loop": ("record", (("a", "loop", "required"),)),
    "other": ("record", (("a", "int", "required"), ("b", "loop", "required"))),
    "ones": ("list", "loop", 1, 9),
    "some": ("list", "loop", 0, 9),
    "pick": ("choice", (("a", "loop"), ("b", "ones")), None),
    "pick2": ("choice", (("a", "loop"), ("b", "int")), None),
    "opt": ("record", (("a", "loop", "optional"), ("b", "ones", "optional"))),
    "ring": ("choice", (("a", "ring2"),), None),
    "ring2": ("list", "ring", 2, 3),
    "int": ("integer", 4, 4),
})
WITHOUT_VALUES = ["loop", "ones", "other", "pick", "ring", "ring2"]

# What is told of each definition: its least value, its second one; None where there is none.
ONE_BY_ONE = {
    "any": (("any",), 0, 1),
    "zero": (("integer", 0, 0), 0, None),
    "around": (("integer", -3, 3), 0, 1),
    "below": (("integer", -3, 0), 0, -1),
    "beside": (("integer", 0, 7), 0, 1),
    "positive": (("integer", 3, 9), 3, 4),
    "negative": (("integer", -9, -3), -3, -4),
    "one": (("integer", -1, 1), 0, 1),
    "two": (("integer", 5, 6), 5, 6),
    "twoneg": (("integer", -6, -5), -5, -6),
    "single": (("integer", -6, -6), -6, None),
    "great": (("integer", 999999, 999999), 999999, None),
    "wide": (("integer", -999999, 999999), 0, 1),
    "text0": (("text", 0), "", None),
    "text1": (("text", 1), "", "a"),
    "text9": (("text", 9), "", "a"),
    "none": (("record", ()), {}, None),
    "lists0": (("list", "any", 0, 0), [], None),
    "lists1": (("list", "any", 0, 1), [], [0]),
    "lists2": (("list", "any", 1, 1), [0], [1]),
    "lists3": (("list", "any", 2, 9), [0, 0], [0, 1]),
    "lists4": (("list", "zero", 2, 3), [0, 0], [0, 0, 0]),
    "lists5": (("list", "zero", 3, 3), [0, 0, 0], None),
    "lists6": (("list", "text1", 2, 3), ["", ""], ["", "", ""]),
    "lists7": (("list", "text1", 2, 2), ["", ""], ["", "a"]),
    "lists8": (("list", "loop", 0, 5), [], None),
    "loop": (("record", (("a", "loop", "required"),)), None, None),
    "tree": (("list", "tree", 0, 2), [], [[]]),
    "rec1": (("record", (("a", "zero", "required"),)), {"a": 0}, None),
    "rec2": (("record", (("a", "zero", "optional"),)), {}, {"a": 0}),
    "rec3": (("record", (("a", "around", "default", 3),)), {"a": 0}, {"a": 1}),
    "rec4": (("record", (("a", "around", "required"), ("b", "around", "required"))), {"a": 0, "b": 0},
        {"a": 0, "b": 1}),
    "rec5": (("record", (("a", "text1", "required"), ("b", "zero", "optional"))), {"a": ""}, {"a": "", "b": 0}),
    "rec6": (("record", (("a", "text9", "required"), ("b", "text9", "required"))), {"a": "", "b": ""},
        {"a": "", "b": "a"}),
    "rec7": (("record", (("a", "loop", "optional"), ("b", "tree", "optional"))), {}, {"b": []}),
    "rec8": (("record", (("a", "loop", "optional"),)), {}, None),
    "rec9": (("record", (("a", "two", "optional"), ("b", "zero", "optional"))), {}, {"a": 5}),
    "rec10": (("record", (("a", "text1", "required"), ("b", "two", "required"))), {"a": "", "b": 5}, {"a": "", "b": 6}),
    "pick1": (("choice", (("a", "zero"),), None), ("a", 0), None),
    "pick2": (("choice", (("a", "zero"), ("b", "two")), None), ("a", 0), ("b", 5)),
    "pick3": (("choice", (("a", "around"), ("b", "zero")), None), ("a", 0), ("a", 1)),
    "pick4": (("choice", (("a", "lists2"), ("b", "zero"), ("c", "text0")), None), ("b", 0), ("c", "")),
    "pick5": (("choice", (("a", "loop"), ("b", "text0")), None), ("b", ""), None),
    "pick6": (("choice", (("a", "text1"), ("b", "lists2")), None), ("a", ""), ("a", "a")),
    "pick7": (("choice", (("a", "pick7"), ("z", "zero")), None), ("z", 0), ("a", ("z", 0))),
    "pick8": (("choice", (("a", "tree"), ("b", "two")), ("b", 6)), ("a", []), ("b", 5)),
    "pick9": (("choice", (("b", "text0"), ("c", "zero")), None), ("b", ""), ("c", 0)),
}
SAMPLES = Format("any", {name: told[0] for name, told in ONE_BY_ONE.items()})


class WithoutValues(unittest.TestCase):
    def test_names(self):
        self.assertTrue(is_format(EMPTY))
        self.assertEqual(names_without_values(EMPTY), WITHOUT_VALUES)
        for name in EMPTY.names():
            with self.subTest(name=name):
                self.assertIs(has_values(EMPTY, name), name not in WITHOUT_VALUES)

    def test_a_default_of_a_type_without_values(self):
        # It is no format, as nothing can be the default, but a field with a default is always written.
        form = Format("a", {"a": ("record", (("f", "a", "default", 0),)), "b": ("integer", 0, 0)})
        self.assertEqual(names_without_values(form), ["a"])
        # Here it is one: only the records with a longer list have no end.
        form = Format("a", {"a": ("record", (("f", "l", "default", []),)), "l": ("list", "a", 0, 1)})
        self.assertEqual(names_without_values(form), [])

    def test_none_and_all(self):
        self.assertEqual(names_without_values(Format("a", {"a": ("any",)})), [])
        self.assertEqual(names_without_values(Format("b", {"b": ("list", "b", 1, 1), "a": ("list", "b", 1, 1)})),
            ["a", "b"])

    def test_what_is_left_of_them(self):
        expected = {name: None for name in WITHOUT_VALUES}
        expected.update({"some": [], "pick2": ("b", 4), "opt": {}, "int": 4})
        self.assertEqual(least_values(EMPTY), expected)
        self.assertEqual(second_values(EMPTY), {name: None for name in EMPTY.names()})
        for name in EMPTY.names():
            with self.subTest(name=name):
                told = ("none", None) if name in WITHOUT_VALUES else ("value", expected[name])
                self.assertEqual(least_of_name(EMPTY, name), told)
                self.assertEqual(second_of_name(EMPTY, name), ("none", None))
                self.assertEqual(least_value(Format(name, EMPTY.definitions)), expected[name])
                self.assertIsNone(second_value(Format(name, EMPTY.definitions)))


class OneByOne(unittest.TestCase):
    def test_least_and_second(self):
        self.assertEqual(least_values(SAMPLES), {name: told[1] for name, told in ONE_BY_ONE.items()})
        self.assertEqual(second_values(SAMPLES), {name: told[2] for name, told in ONE_BY_ONE.items()})
        for name, (_, least, second) in ONE_BY_ONE.items():
            with self.subTest(name=name):
                form = Format(name, SAMPLES.definitions)
                for ask, of_root, value in ((least_of_name, least_value, least),
                        (second_of_name, second_value, second)):
                    self.assertEqual(ask(SAMPLES, name), ("none", None) if value is None else ("value", value))
                    self.assertEqual(of_root(form), value)
                    self.assertIs(type(of_root(form)), type(value))

    def test_names_of_records_are_ascending(self):
        form = Format("r", {"r": ("record", (("a", "i", "optional"), ("b", "i", "required"), ("c", "i", "default", 0))),
                            "i": ("integer", 0, 0)})
        self.assertEqual(list(least_value(form)), ["b", "c"])
        self.assertEqual(list(second_value(form)), ["a", "b", "c"])

    def test_the_argument_stays_and_what_is_returned_is_new(self):
        before = copy.deepcopy(SAMPLES.definitions)
        least_values(SAMPLES)["any"] = 5
        second_values(SAMPLES)["any"] = 5
        form = Format("lists3", SAMPLES.definitions)
        least_value(form).append(7)
        second_value(form).append(7)
        self.assertEqual([least_value(form), second_value(form)], [[0, 0], [0, 1]])
        self.assertEqual(SAMPLES.definitions, before)


class BesideAllValues(unittest.TestCase):
    SIZE = 6

    def check(self, form, name, least, second):
        listings = Listing(form)
        values = []
        for size in range(1, self.SIZE + 1):
            if len(values) < 2:
                values = listings.up_to(name, size)
        for told, at in ((least, 0), (second, 1)):
            with self.subTest(definitions=form.definitions, name=name, at=at):
                if len(values) > at:
                    self.assertEqual(told, values[at])
                    self.assertEqual(compare_values(told, values[at]), 0)
                elif told is not None:
                    self.assertGreater(size_of(told), self.SIZE)
                    self.assertTrue(writes(form, name, told))

    def test_random_formats(self):
        made = random.Random(17)
        for _ in range(400):
            form = random_format(made, made.randint(1, 5))
            least, second = least_values(form), second_values(form)
            self.assertEqual(list(least), form.names())
            self.assertEqual(list(second), form.names())
            for name in form.names():
                self.check(form, name, least[name], second[name])
                self.assertIs(has_values(form, name), least[name] is not None)

    def test_random_formats_with_few_values(self):
        made = random.Random(18)
        for _ in range(300):
            form = random_format(made, made.randint(2, 6), ["list", "record", "choice", "record"])
            least, second = least_values(form), second_values(form)
            for name in form.names():
                self.check(form, name, least[name], second[name])


class Sizes(unittest.TestCase):
    def test_the_formats_of_these_tests(self):
        for size in range(280, 310):
            form = sized(size)
            self.assertTrue(is_format(form))
            if size <= 300:
                self.assertEqual(size_of(least_value(form)), size)

    def test_at_the_bound(self):
        form = sized(300)
        value = least_value(form)
        self.assertEqual(size_of(value), 300)
        self.assertEqual(least_of_name(form, "a"), ("value", value))
        self.assertEqual(least_values(form)["a"], value)
        self.assertRaises(TooLarge, second_value, form)
        self.assertEqual(second_of_name(form, "a"), ("large", None))
        self.assertIsNone(second_values(form)["a"])

    def test_above_the_bound(self):
        for size in (301, 302, 309):
            form = sized(size)
            for ask in (least_value, second_value):
                self.assertRaises(TooLarge, ask, form)
            for ask in (least_of_name, second_of_name):
                self.assertEqual(ask(form, "a"), ("large", None))
            self.assertIsNone(least_values(form)["a"])
            self.assertIsNone(second_values(form)["a"])
            self.assertEqual(least_values(form)["i"], 0)
            self.assertEqual(least_values(form)["l2"], [0] * 9)
            self.assertEqual(second_of_name(form, "i"), ("none", None))

    def test_a_small_least_value_and_a_large_second_one(self):
        for size, told in ((298, "value"), (299, "value"), (300, "large"), (301, "large")):
            definitions = sized(size).definitions
            rows = [("list", "a", 0, 1), ("record", (("f", "a", "optional"),)),
                ("choice", (("t", "i"), ("u", "a")), None)]
            for definition, least in zip(rows, ([], {}, ("t", 0))):
                with self.subTest(size=size, definition=definition):
                    form = Format("root", {**definitions, "root": definition})
                    self.assertEqual(least_value(form), least)
                    self.assertEqual(second_of_name(form, "root")[0], told)
                    if told == "value":
                        self.assertEqual(size_of(second_value(form)), size + 1)
                        self.assertEqual(second_values(form)["root"], second_value(form))
                    else:
                        self.assertRaises(TooLarge, second_value, form)
                        self.assertIsNone(second_values(form)["root"])

    def test_exactly_one_large_value(self):
        rows = {"i": ("integer", 0, 0), "l2": ("list", "i", 9, 9), "l3": ("list", "l2", 9, 9),
            "l4": ("list", "l3", 9, 9)}
        form = Format("l4", rows)
        self.assertRaises(TooLarge, least_value, form)
        self.assertIsNone(second_value(form))
        self.assertEqual(second_of_name(form, "l4"), ("none", None))
        self.assertEqual(second_of_name(Format("l4", {**rows, "i": ("integer", 0, 1)}), "l4"), ("large", None))
        for cases, told in (((("t", "l4"),), "none"), ((("t", "l4"), ("u", "l4")), "large"),
                ((("t", "pick"), ("u", "l4")), "large")):
            form = Format("pick", {**rows, "pick": ("choice", cases, None)})
            self.assertEqual(second_of_name(form, "pick"), (told, None))
            self.assertEqual(least_of_name(form, "pick"), ("large", None))

    def test_a_choice_of_large_values_of_which_one_has_just_one(self):
        rows = {"i": ("integer", 0, 0), "l2": ("list", "i", 9, 9), "l3": ("list", "l2", 9, 9),
            "l4": ("list", "l3", 9, 9)}
        rows["m"] = ("list", "l3", 8, 9)
        for cases, told in (((("t", "loop"), ("u", "l4")), "none"), ((("t", "loop"), ("u", "m")), "large"),
                            ((("t", "l4"), ("u", "loop")), "none"), ((("t", "loop"),), "none")):
            form = Format("pick", {**rows, "pick": ("choice", cases, None), "loop": ("list", "loop", 1, 1)})
            self.assertEqual(second_of_name(form, "pick"), (told, None))

    def test_great_formats(self):
        names = ["n%02d" % at for at in range(12)]
        rows = {name: ("list", names[at + 1 if at < 11 else 0], 9, 9) for at, name in enumerate(names)}
        self.assertEqual(names_without_values(Format("n00", rows)), names)
        rows["n11"] = ("choice", (("a", "n00"), ("b", "n05"), ("c", "n11")), None)
        self.assertEqual(names_without_values(Format("n00", rows)), names)
        rows["n11"] = ("integer", -9, -9)
        form = Format("n00", rows)
        self.assertEqual(names_without_values(form), [])
        self.assertEqual([least_of_name(form, name)[0] for name in names], ["large"] * 9 + ["value"] * 3)
        self.assertEqual({second_of_name(form, name) for name in names}, {("none", None)})
        rows["n11"] = ("any",)
        self.assertEqual([second_of_name(Format("n00", rows), name)[0] for name in names],
            ["large"] * 9 + ["value"] * 3)

    def test_great_formats_in_circles(self):
        self.assertEqual(names_without_values(in_circles(["required"] * 4, 9)), CIRCLE)
        rows = in_circles(["optional", "required"] * 2, 9).definitions
        self.assertEqual(names_without_values(Format("n00", rows)), CIRCLE)
        rows["n05"] = ("list", "n06", 0, 9)
        rows["n10"] = ("choice", (("a", "n11"), ("b", "n10"), ("c", "n05"), ("d", "n01")), None)
        form = Format("n00", rows)
        for name in CIRCLE:
            least, second = least_of_name(form, name), second_of_name(form, name)
            for told in (least, second):
                if told[0] == "value":
                    self.assertTrue(writes(form, name, told[1]))
            if second[0] == "value":
                self.assertLess(compare_values(least[1], second[1]), 0)
        self.assertEqual(least_of_name(form, "n05"), ("value", []))
        self.assertEqual(least_of_name(form, "n10"), ("value", ("c", [])))
        self.assertEqual(second_of_name(form, "n10"), ("value", ("b", ("c", []))))


if __name__ == "__main__":
    unittest.main()
