"""Points 30 and 31 and formatfit/common.py: the common format of two formats."""

import copy
import random
import unittest

from formatfit.certificates import certify, is_certificate, met_pairs
from formatfit.common import common_format
from formatfit.compatibility import can_read, smallest_failure
from formatfit.format_text import format_text
from formatfit.formats import Format, is_shaped
from formatfit.least import has_values, least_value, least_values, names_without_values, second_value
from formatfit.loss import dropped_fields, is_lossless, smallest_confusion, unknown_tags
from formatfit.reading import read, read_along
from formatfit.sources import smallest_source
from formatfit.value_text import format_value
from formatfit.writing import is_format, is_written
from listing import Listing, changed_format, looser_format, lossy_pairs, random_format
from listing import choice, in_circles, may, need, record

TYPES = {
    "any": ("any",), "i": ("integer", 0, 5), "j": ("integer", -3, 2), "t": ("text", 3),
    "none": record(need("a", "none")), "gone": ("list", "none", 1, 2), "list": ("list", "none", 0, 9),
    "rec": record(("a", "i", "default", 1), may("b", "t"), need("c", "j")),
    "pick": choice(("k", "i"), ("l", "rec"), fallback=("k", 2)),
}


def made(definition):
    return Format("root", {**TYPES, "root": definition})


def text_of(first, second):
    return format_text(common_format(made(first), made(second)))


INT_I, INT_J = "integer 0 5", "integer -3 2"

# Two definitions, and the lines of their common format behind the first one.
ROWS = [
    # Integers and texts.
    (("integer", 0, 5), ("integer", 0, 5), ["t0 integer 0 5"]),
    (("integer", 0, 5), ("integer", 3, 9), ["t0 integer 0 9"]),
    (("integer", 3, 9), ("integer", 0, 5), ["t0 integer 0 9"]),
    (("integer", 0, 9), ("integer", 3, 5), ["t0 integer 0 9"]),
    (("integer", -9, -8), ("integer", 8, 9), ["t0 integer -9 9"]),
    (("integer", 7, 7), ("integer", 7, 8), ["t0 integer 7 8"]),
    (("integer", -999999, 0), ("integer", 0, 999999), ["t0 integer -999999 999999"]),
    (("text", 0), ("text", 9), ["t0 text 9"]), (("text", 9), ("text", 0), ["t0 text 9"]),
    (("text", 2), ("text", 2), ["t0 text 2"]),
    # Any, and different kinds.
    (("any",), ("any",), ["t0 any"]), (("any",), ("integer", 0, 5), ["t0 any"]),
    (record(need("a", "i")), ("any",), ["t0 any"]), (("any",), ("list", "any", 0, 9), ["t0 any"]),
    (("integer", 0, 5), ("text", 3), ["t0 any"]), (("list", "i", 0, 3), record(), ["t0 any"]),
    (record(may("k", "i")), choice(("k", "i")), ["t0 any"]), (("text", 0), ("list", "t", 0, 0), ["t0 any"]),
    # Lists.
    (("list", "i", 0, 3), ("list", "j", 2, 7), ["t0 list t1 0 7", "t1 integer -3 5"]),
    (("list", "i", 2, 7), ("list", "j", 0, 3), ["t0 list t1 0 7", "t1 integer -3 5"]),
    (("list", "i", 4, 5), ("list", "j", 7, 9), ["t0 list t1 4 9", "t1 integer -3 5"]),
    (("list", "i", 1, 3), ("list", "t", 1, 1), ["t0 list t1 1 3", "t1 any"]),
    (("list", "root", 0, 3), ("list", "root", 1, 2), ["t0 list t0 0 3"]),
    (("list", "i", 1, 3), ("list", "root", 0, 2), ["t0 list t1 0 3", "t1 any"]),
    (("list", "i", 0, 3), ("list", "j", 0, 0), ["t0 list t1 0 3", "t1 integer 0 5"]),
    (("list", "i", 0, 0), ("list", "j", 1, 3), ["t0 list t1 0 3", "t1 integer -3 2"]),
    (("list", "i", 0, 0), ("list", "j", 0, 0), ["t0 list t1 0 0", "t1 integer 0 5"]),
    (("list", "i", 0, 0), ("list", "t", 0, 0), ["t0 list t1 0 0", "t1 integer 0 5"]),
    (("list", "none", 0, 9), ("list", "j", 1, 3), ["t0 list t1 0 3", "t1 integer -3 2"]),
    (("list", "none", 0, 9), ("list", "j", 2, 3), ["t0 list t1 0 3", "t1 integer -3 2"]),
    (("list", "i", 1, 3), ("list", "none", 0, 9), ["t0 list t1 0 3", "t1 integer 0 5"]),
    (("list", "none", 0, 9), ("list", "gone", 0, 8), ["t0 list t1 0 0", "t1 record a t1"]),
    (("list", "gone", 0, 9), ("list", "j", 0, 0), ["t0 list t1 0 0", "t1 list t2 1 2", "t2 record a t2"]),
    (("list", "j", 0, 0), ("list", "gone", 0, 9), ["t0 list t1 0 0", "t1 integer -3 2"]),
    (("list", "none", 0, 9), ("list", "pick", 0, 1),
        ["t0 list t1 0 1", "t1 choice k t2, l t3", "t2 integer 0 5", "t3 record a t2, b t4 optional, c t5", "t4 text 3",
         "t5 integer -3 2"]),
    # Records: fields of both.
    (record(), record(), ["t0 record"]),
    (record(need("a", "i")), record(need("a", "j")), ["t0 record a t1", "t1 integer -3 5"]),
    (record(need("a", "i")), record(may("a", "i")), ["t0 record a t1 optional", "t1 " + INT_I]),
    (record(may("a", "i")), record(need("a", "i")), ["t0 record a t1 optional", "t1 " + INT_I]),
    (record(may("a", "i")), record(may("a", "i")), ["t0 record a t1 optional", "t1 " + INT_I]),
    (record(("a", "i", "default", 4)), record(need("a", "i")), ["t0 record a t1", "t1 " + INT_I]),
    (record(need("a", "i")), record(("a", "i", "default", 4)), ["t0 record a t1", "t1 " + INT_I]),
    (record(("a", "i", "default", 4)), record(("a", "i", "default", 4)), ["t0 record a t1", "t1 " + INT_I]),
    (record(("a", "i", "default", 4)), record(may("a", "j")), ["t0 record a t1 optional", "t1 integer -3 5"]),
    (record(need("a", "i")), record(need("a", "t")), ["t0 record a t1", "t1 any"]),
    (record(need("a", "i")), record(may("a", "none")), ["t0 record a t1 optional", "t1 " + INT_I]),
    (record(may("a", "gone")), record(need("a", "i")), ["t0 record a t1 optional", "t1 " + INT_I]),
    (record(may("a", "gone")), record(may("a", "none")),
        ["t0 record a t1 optional", "t1 list t2 1 2", "t2 record a t2"]),
    # Fields of one of them.
    (record(need("a", "i")), record(), ["t0 record a t1 optional", "t1 " + INT_I]),
    (record(), record(("a", "i", "default", 4)), ["t0 record a t1 optional", "t1 " + INT_I]),
    (record(may("b", "t"), may("d", "i")), record(need("a", "j"), need("c", "t")),
        ["t0 record a t1 optional, b t2 optional, c t3 optional, d t4 optional", "t1 " + INT_J, "t2 text 3",
         "t3 text 3", "t4 " + INT_I]),
    (record(need("b", "i"), need("c", "i")), record(need("a", "i"), need("b", "i")),
        ["t0 record a t1 optional, b t2, c t3 optional", "t1 " + INT_I, "t2 " + INT_I, "t3 " + INT_I]),
    (record(may("a", "none")), record(), ["t0 record a t1 optional", "t1 record a t1"]),
    # Choices.
    (choice(("a", "i")), choice(("a", "j")), ["t0 choice a t1", "t1 integer -3 5"]),
    (choice(("b", "i")), choice(("a", "j")), ["t0 choice a t1, b t2", "t1 " + INT_J, "t2 " + INT_I]),
    (choice(("a", "i"), ("c", "t"), fallback=("a", 1)), choice(("b", "t"), ("c", "t"), fallback=("b", "")),
        ["t0 choice a t1, b t2, c t3", "t1 " + INT_I, "t2 text 3", "t3 text 3"]),
    (choice(("a", "i"), ("b", "none")), choice(("b", "t")), ["t0 choice a t1, b t2", "t1 " + INT_I, "t2 text 3"]),
    (choice(("a", "i"), ("b", "t")), choice(("a", "none"), ("b", "i")),
        ["t0 choice a t1, b t2", "t1 " + INT_I, "t2 any"]),
    (choice(("a", "none"), ("b", "t")), choice(("b", "t")), ["t0 choice a t1, b t2", "t1 record a t1", "t2 text 3"]),
    # Without values: the other one alone, without defaults and fallbacks.
    (record(need("a", "none")), ("integer", 0, 5), ["t0 integer 0 5"]),
    (("text", 3), ("list", "none", 1, 9), ["t0 text 3"]),
    (("any",), choice(("a", "none")), ["t0 any"]), (("list", "none", 1, 9), ("any",), ["t0 any"]),
    (("list", "none", 1, 9), record(need("a", "gone")), ["t0 list t1 1 9", "t1 record a t1"]),
    (record(need("a", "gone")), ("list", "none", 1, 9), ["t0 record a t1", "t1 list t2 1 2", "t2 record a t2"]),
    (record(("a", "i", "default", 1), may("b", "t"), need("c", "i")), record(need("a", "none")),
        ["t0 record a t1, b t2 optional, c t1", "t1 " + INT_I, "t2 text 3"]),
    (choice(("a", "none")), choice(("a", "i"), fallback=("a", 1)), ["t0 choice a t1", "t1 " + INT_I]),
    (("list", "none", 3, 9), ("list", "pick", 2, 2),
        ["t0 list t1 2 2", "t1 choice k t2, l t3", "t2 " + INT_I, "t3 record a t2, b t4 optional, c t5", "t4 text 3",
         "t5 " + INT_J]),
    # A type taken from one format is as it is there, effective or not.
    (record(), record(may("a", "list")), ["t0 record a t1 optional", "t1 list t2 0 9", "t2 record a t2"]),
]


class OneByOne(unittest.TestCase):
    def test_rows(self):
        for first, second, lines in ROWS:
            with self.subTest(first=first, second=second):
                self.assertTrue(is_format(made(first)) and is_format(made(second)))
                self.assertEqual(text_of(first, second), "\n".join(["root t0", *lines]))

    def test_it_is_a_new_format(self):
        form = made(("integer", 0, 5))
        found = common_format(form, form)
        self.assertIs(type(found), Format)
        self.assertIsNot(found.definitions, form.definitions)
        self.assertEqual((found.root, found.definitions), ("t0", {"t0": ("integer", 0, 5)}))

    def test_other_names(self):
        first = Format("b", {"b": ("list", "a", 0, 1), "a": ("integer", 0, 1)})
        second = Format("a", {"a": ("list", "b", 0, 2), "b": ("integer", 0, 2)})
        self.assertEqual(format_text(common_format(first, second)), "root t0\nt0 list t1 0 2\nt1 integer 0 2")


class Names(unittest.TestCase):
    def test_in_breadth(self):
        first = Format("r", {
            "r": record(need("a", "s"), need("b", "k")), "s": record(need("x", "u"), need("y", "v")),
            "k": choice(("m", "v"), ("n", "w")), "u": ("list", "w", 0, 1), "v": ("text", 1), "w": ("integer", 0, 1),
        })
        expected = [
            "root t0", "t0 record a t1, b t2", "t1 record x t3, y t4", "t2 choice m t4, n t5", "t3 list t5 0 1",
            "t4 text 1", "t5 integer 0 1",
        ]
        self.assertEqual(format_text(common_format(first, first)), "\n".join(expected))

    def test_a_pair_has_one_name_and_others_have_others(self):
        first = made(record(need("a", "i"), need("b", "i"), need("c", "i"), need("d", "j")))
        second = made(record(need("a", "i"), need("b", "j"), need("c", "i"), need("d", "i")))
        self.assertEqual(format_text(common_format(first, second)).split("\n")[1:], [
            "t0 record a t1, b t2, c t1, d t3", "t1 integer 0 5", "t2 integer -3 5", "t3 integer -3 5",
        ])

    def test_a_type_of_one_format_has_one_name(self):
        # By a field of one format alone, by a pair with a type without values, and by the elements of a list.
        first = made(record(may("a", "i"), may("b", "i"), may("c", "i"), may("d", "l")))
        first.definitions["l"] = ("list", "i", 0, 3)
        second = made(record(may("b", "none"), may("c", "gone"), may("d", "m")))
        second.definitions["m"] = ("list", "i", 0, 0)
        self.assertEqual(format_text(common_format(first, second)).split("\n")[1:], [
            "t0 record a t1 optional, b t1 optional, c t1 optional, d t2 optional", "t1 integer 0 5", "t2 list t1 0 3",
        ])
        self.assertEqual(format_text(common_format(second, first)).split("\n")[1:], [
            "t0 record a t1 optional, b t1 optional, c t1 optional, d t2 optional", "t1 integer 0 5", "t2 list t1 0 3",
        ])
        # The types of the same name of the two formats are two; neither is the pair of both.
        first, second = made(choice(("a", "i"), ("c", "i"))), made(choice(("b", "i"), ("c", "i")))
        self.assertEqual(format_text(common_format(first, second)).split("\n")[1:], [
            "t0 choice a t1, b t2, c t3", "t1 integer 0 5", "t2 integer 0 5", "t3 integer 0 5",
        ])

    def test_any_has_a_name_for_each_pair(self):
        first = made(record(need("a", "i"), need("b", "i"), need("c", "i"), need("d", "any")))
        second = made(record(need("a", "t"), need("b", "any"), need("c", "t"), need("d", "i")))
        self.assertEqual(format_text(common_format(first, second)).split("\n")[1:], [
            "t0 record a t1, b t2, c t1, d t3", "t1 any", "t2 any", "t3 any",
        ])

    def test_the_root_again(self):
        chain = made(record(may("n", "root"), need("v", "i")))
        other = made(record(may("n", "next"), need("v", "j")))
        other.definitions["next"] = record(may("n", "root"))
        self.assertEqual(format_text(common_format(chain, other)).split("\n")[1:], [
            "t0 record n t1 optional, v t2", "t1 record n t0 optional, v t3 optional", "t2 integer -3 5",
            "t3 integer 0 5",
        ])

    def test_more_than_ten(self):
        names = ["n%02d" % at for at in range(12)]
        ring = Format("n00", {name: ("list", names[(at + 1) % 12], at % 2, 9) for at, name in enumerate(names)})
        found = common_format(ring, ring)
        self.assertEqual(found.of("t9"), ("list", "t10", 1, 9))
        self.assertEqual(found.of("t11"), ("list", "t0", 1, 9))
        self.assertEqual(len(found.definitions), 12)


def reference(first, second):
    """The common format by the words of [30]: all places that are met in breadth, and what stands there."""

    def resolve(one, other):
        if one is None or other is None:
            return (one, other)
        if not has_values(second, other):
            return (one, None)
        return (one, other) if has_values(first, one) else (None, other)

    def alone(definition, place):
        kind = definition[0]
        if kind == "list":
            return (kind, place(definition[1]), *definition[2:])
        if kind == "record":
            return (kind, tuple((name, place(inner), "optional" if how == "optional" else "required")
                for name, inner, how, *_ in definition[1]))
        if kind == "choice":
            return (kind, tuple((tag, place(inner)) for tag, inner in definition[1]), None)
        return definition

    def parts(one, other):
        mine, theirs = ({part[0]: part for part in definition[1]} for definition in (one, other))
        for name in sorted({**mine, **theirs}):
            yield name, mine.get(name, [None] * 3), theirs.get(name, [None] * 3)

    def together(one, other):
        kinds = {one[0], other[0]}
        if "any" in kinds or len(kinds) == 2:
            return ("any",)
        if kinds == {"integer"}:
            return ("integer", min(one[1], other[1]), max(one[2], other[2]))
        if kinds == {"text"}:
            return ("text", max(one[1], other[1]))
        if kinds == {"list"}:
            lengths = [one[3] * has_values(first, one[1]), other[3] * has_values(second, other[1])]
            place = {(True, True): (one[1], other[1]), (False, True): (None, other[1])}.get(
                tuple(length > 0 for length in lengths), (one[1], None))
            return ("list", resolve(*place), min(one[2], other[2]), max(lengths))
        if kinds == {"choice"}:
            cases = [(tag, resolve(mine[1], theirs[1])) for tag, mine, theirs in parts(one, other)]
            return ("choice", tuple(cases), None)
        fields = []
        for name, mine, theirs in parts(one, other):
            always = {mine[2], theirs[2]} <= {"required", "default"}
            fields.append((name, resolve(mine[1], theirs[1]), "required" if always else "optional"))
        return ("record", tuple(fields))

    def definition_at(place):
        if place[1] is None:
            return alone(first.of(place[0]), lambda inner: (inner, None))
        if place[0] is None:
            return alone(second.of(place[1]), lambda inner: (None, inner))
        return together(first.of(place[0]), second.of(place[1]))

    def places_in(definition):
        if definition[0] == "list":
            return [definition[1]]
        return [part[1] for part in definition[1]] if definition[0] in ("record", "choice") else []

    def with_names(definition):
        if definition[0] == "list":
            return ("list", names[definition[1]], *definition[2:])
        if definition[0] in ("record", "choice"):
            parts_made = tuple((part[0], names[part[1]], *part[2:]) for part in definition[1])
            return (definition[0], parts_made, *definition[2:])
        return definition

    order = [resolve(first.root, second.root)]
    for place in order:
        order.extend(inner for inner in dict.fromkeys(places_in(definition_at(place))) if inner not in order)
    names = {place: "t%d" % at for at, place in enumerate(order)}
    return {names[place]: with_names(definition_at(place)) for place in order}


def random_pairs(seed, many):
    source = random.Random(seed)
    for _ in range(many):
        first = random_format(source, source.randint(1, 5))
        second = random_format(source, source.randint(1, 5))
        yield first, changed_format(source, first) if source.random() < 0.7 else second


class ByTheWords(unittest.TestCase):
    def test_random_formats(self):
        sizes = set()
        for first, second in [*random_pairs(109, 500), *lossy_pairs(109, 300)]:
            found = common_format(first, second)
            with self.subTest(first=first.definitions, second=second.definitions):
                self.assertEqual(found.root, "t0")
                self.assertEqual(found.definitions, reference(first, second))
            sizes.add(len(found.definitions))
        self.assertGreater(len(sizes), 7)


class Facts(unittest.TestCase):
    def test_who_can_read_it(self):
        told = [0, 0, 0]
        source = random.Random(114)
        for first, second in [*random_pairs(113, 200), *lossy_pairs(113, 150)]:
            common = common_format(first, second)
            others = [looser_format(source, form) for form in (first, second, common, common)]
            others += [first, second, common, changed_format(source, common), random_format(source, 2)]
            for reader in others:
                both = [can_read(reader, form) for form in (first, second)]
                told[sum(both)] += 1
                with self.subTest(first=first.definitions, second=second.definitions, reader=reader.definitions):
                    self.assertIs(can_read(reader, common), all(both))
        self.assertGreater(min(told), 100)

    def test_it_writes_what_one_of_both_writes(self):
        for first, second in [*random_pairs(127, 100), *lossy_pairs(127, 100)]:
            common = common_format(first, second)
            for form in (first, second):
                self.assertTrue(can_read(common, form))
                for value in Listing(form).up_to(form.root, 5)[:100]:
                    self.assertTrue(is_written(common, value))
                    self.assertEqual(read(common, value), ("value", value))

    def test_with_itself(self):
        for form, _ in random_pairs(131, 150):
            common = common_format(form, form)
            self.assertTrue(can_read(common, form))
            values = Listing(form).up_to(form.root, 5)
            self.assertEqual([format_value(value) for value in Listing(common).up_to("t0", 5)],
                [format_value(value) for value in values])


class BeyondTheBounds(unittest.TestCase):
    """Common formats need not keep the bounds of formats, and can be passed in all the same."""

    def setUp(self):
        first = Format("r", {
            "r": record(may("a", "i"), need("b", "s"), need("c", "i"), may("d", "r")), "i": ("integer", 0, 5),
            "s": choice(("k", "i"), ("l", "r"), ("m", "t"), ("n", "i"), fallback=("k", 0)), "t": ("text", 2),
        })
        second = Format("x", {
            "x": record(may("b", "y"), need("e", "z"), ("f", "z", "default", "q"), may("g", "x")),
            "y": choice(("k", "j"), ("o", "z"), ("p", "x"), ("q", "z")), "z": ("text", 5), "j": ("integer", 3, 9),
        })
        self.common = common_format(first, second)
        self.parts = first, second

    def test_the_text(self):
        fields = ["a t1", "b t2", "c t1", "d t3", "e t4", "f t4", "g t5"]
        self.assertEqual(format_text(self.common), "\n".join([
            "root t0", "t0 record " + ", ".join(field + " optional" for field in fields), "t1 integer 0 5",
            "t10 integer 3 9", "t2 choice k t6, l t3, m t7, n t1, o t4, p t5, q t4",
            "t3 record a t1 optional, b t8, c t1, d t3 optional", "t4 text 5",
            "t5 record b t9 optional, e t4, f t4, g t5 optional", "t6 integer 0 9", "t7 text 2",
            "t8 choice k t1, l t3, m t7, n t1", "t9 choice k t10, o t4, p t5, q t4",
        ]))
        self.assertIs(is_shaped(self.common), False)
        self.assertIs(is_format(self.common), False)

    def test_each_function_answers(self):
        common = self.common
        value = {"b": ("l", {"b": ("k", 0), "c": 4}), "e": "abc"}
        self.assertTrue(is_written(common, value))
        self.assertEqual(read(common, value), ("value", value))
        self.assertEqual(read_along([common, common], value), ("value", value, 2))
        self.assertEqual(names_without_values(common), [])
        self.assertEqual([least_value(common), second_value(common)], [{}, {"a": 0}])
        self.assertEqual(sorted(least_values(common)), common.names())
        for form in self.parts:
            self.assertTrue(can_read(common, form))
            self.assertTrue(is_certificate(common, form, certify(common, form)))
            self.assertIs(is_lossless(common, form), True)
            self.assertIsNotNone(smallest_failure(form, common))
            self.assertEqual([dropped_fields(common, form), unknown_tags(common, form)], [[], []])
            # The common format of a common one and one of its parts writes the same.
            again = common_format(common, form)
            self.assertTrue(can_read(common, again) and can_read(again, common))
        self.assertEqual(met_pairs(common, common), [(name, name) for name in common.names()])
        self.assertEqual(smallest_source(common, common, value), value)
        self.assertIsNone(smallest_confusion(common, common))
        narrow = Format("r", {"r": record(may("a", "i")), "i": ("integer", 0, 9)})
        self.assertEqual(len(dropped_fields(narrow, common)), 6)
        self.assertEqual(smallest_confusion(narrow, common), ({}, {"c": 0}))
        self.assertEqual(smallest_source(narrow, common, {"a": 2}), {"a": 2})


class GreatFormats(unittest.TestCase):
    def test_rings_of_twelve_and_eleven(self):
        def ring(many, letter):
            names = [letter + str(at) for at in range(many)]
            return Format(names[0], {name: ("list", names[(at + 1) % many], 0, 9) for at, name in enumerate(names)})

        common = common_format(ring(11, "r"), ring(12, "w"))
        self.assertEqual(len(common.definitions), 132)
        self.assertEqual(common.of("t131"), ("list", "t0", 0, 9))
        self.assertTrue(can_read(ring(5, "x"), common))
        self.assertTrue(can_read(common, ring(5, "x")))
        self.assertIs(is_lossless(common, common), True)

    def test_circles(self):
        first, second = in_circles(["optional"] * 4, 0), in_circles(["required"] + ["optional"] * 3, 0)
        for name in ("n01", "n04"):
            cases = tuple((tag + "x", inner) for tag, inner in second.of(name)[1])
            second.definitions[name] = ("choice", cases, None)
        common = common_format(first, second)
        for form in (first, second):
            self.assertTrue(can_read(common, form))
        self.assertIs(can_read(first, common), can_read(first, second))
        self.assertIs(can_read(second, common), False)
        self.assertEqual(common.definitions, reference(first, second))

    def test_arguments_stay(self):
        first, second = made(("list", "pick", 0, 3)), made(("list", "rec", 1, 2))
        before = copy.deepcopy([first.definitions, second.definitions])
        common_format(first, second).definitions.clear()
        self.assertEqual([first.definitions, second.definitions], before)


if __name__ == "__main__":
    unittest.main()
