"""Points 24, 25 and 26 and formatfit/certificates.py: pairs that are met, and certificates."""

import copy
import itertools
import random
import unittest

from formatfit.certificates import certify, is_certificate, met_pairs
from formatfit.compatibility import can_read
from formatfit.formats import Format
from formatfit.least import names_without_values
from formatfit.writing import is_format
from listing import Listing, changed_format, random_format
from listing import choice, in_circles, may, need, record

EMPTY = {"none": ("record", (("a", "none", "required"),))}
LEAVES = {"i": ("integer", 0, 5), "j": ("integer", 0, 9), "t": ("text", 3), "x": ("any",), **EMPTY}


def made(definition, root="root"):
    return Format(root, {**LEAVES, "root": definition})


ROOT = ("root", "root")

# Reader, writer, and the pairs that are met beside that of the roots.
MET = [
    (("integer", 0, 1), ("integer", 0, 5), []), (("any",), ("any",), []), (("any",), record(need("a", "i")), []),
    (record(need("a", "i")), ("any",), []), (("any",), ("list", "root", 0, 9), []),
    (("text", 0), ("integer", 0, 1), []),
    (("list", "j", 0, 9), ("list", "i", 0, 9), [("j", "i")]), (("list", "j", 0, 9), ("list", "i", 0, 1), [("j", "i")]),
    (("list", "j", 0, 9), ("list", "i", 0, 0), []), (("list", "j", 0, 0), ("list", "i", 0, 1), [("j", "i")]),
    (("list", "j", 0, 9), ("list", "none", 0, 9), []), (("list", "none", 0, 9), ("list", "i", 0, 9), [("none", "i")]),
    (("list", "x", 0, 9), ("list", "i", 2, 3), [("x", "i")]), (("list", "i", 0, 9), ("list", "x", 2, 3), [("i", "x")]),
    (("list", "i", 0, 9), record(need("a", "i")), []), (("list", "root", 0, 9), ("list", "i", 0, 9), [("root", "i")]),
    (("list", "root", 0, 9), ("list", "root", 0, 9), []), (("list", "i", 5, 5), ("list", "j", 9, 9), [("i", "j")]),
    (record(), record(need("a", "i")), []), (record(need("a", "i")), record(), []),
    (record(need("a", "i")), record(need("a", "j")), [("i", "j")]),
    (record(may("a", "i")), record(may("a", "t")), [("i", "t")]),
    (record(may("a", "i"), need("b", "t"), may("d", "x")), record(may("b", "t"), need("c", "j"), may("d", "i")),
        [("t", "t"), ("x", "i")]),
    (record(may("a", "t"), may("b", "t")), record(need("a", "j"), need("b", "i")), [("t", "i"), ("t", "j")]),
    (record(may("a", "i"), may("b", "i")), record(need("a", "i"), may("b", "i")), [("i", "i")]),
    (record(may("a", "i"), may("b", "j")), record(may("a", "none"), may("b", "i")), [("j", "i")]),
    (record(("a", "i", "default", 1)), record(("a", "j", "default", 9)), [("i", "j")]),
    (choice(("a", "i")), choice(("a", "j")), [("i", "j")]),
    (choice(("a", "i"), ("b", "t")), choice(("b", "x"), ("c", "i")), [("t", "x")]),
    (choice(("a", "i")), choice(("b", "i")), []), (choice(("a", "i"), fallback=("a", 0)), choice(("b", "i")), []),
    (choice(("a", "i"), ("b", "i")), choice(("a", "none"), ("b", "j")), [("i", "j")]),
    (choice(("a", "root"), ("b", "i")), choice(("a", "root"), ("b", "j")), [("i", "j")]),
    (choice(("a", "none")), choice(("a", "j")), [("none", "j")]), (choice(("a", "i")), record(need("a", "i")), []),
]


def traced(reader, writer, size):
    """The pairs by which parts of the writer's values of at most this size are read, those that are read."""
    pairs = set()

    def trace(first, second, value):
        pairs.add((first, second))
        one, other = reader.definitions[first], writer.definitions[second]
        if one[0] == "list":
            for part in value:
                trace(one[1], other[1], part)
        elif one[0] == "record":
            types = {field[0]: field[1] for field in other[1]}
            for field in one[1]:
                if field[0] in value:
                    trace(field[1], types[field[0]], value[field[0]])
        elif one[0] == "choice" and value[0] in dict(one[1]):
            trace(dict(one[1])[value[0]], dict(other[1])[value[0]], value[1])

    for value in Listing(writer).up_to(writer.root, size)[:3000]:
        trace(reader.root, writer.root, value)
    return pairs


class Met(unittest.TestCase):
    def test_pairs(self):
        for reading, writing, behind in MET:
            with self.subTest(reader=reading, writer=writing):
                pairs = met_pairs(made(reading), made(writing))
                self.assertEqual(pairs, sorted([ROOT, *behind]))
                self.assertIs(type(pairs), list)
                self.assertTrue(all(type(pair) is tuple for pair in pairs))

    def test_a_root_without_values(self):
        for writing in (record(need("a", "none")), ("list", "none", 1, 9), choice(("a", "none")),
                record(need("a", "i"), need("b", "none"))):
            for reading in (("any",), ("integer", 0, 0), writing):
                self.assertEqual(met_pairs(made(reading), made(writing)), [])

    def test_nothing_within_any(self):
        reader = Format("a", {"a": record(may("f", "x"), may("g", "a")), "x": ("any",)})
        writer = Format("b", {"b": record(may("f", "c"), may("g", "d")), "c": ("list", "d", 0, 9), "d": ("any",)})
        self.assertEqual(met_pairs(reader, writer), [("a", "b"), ("a", "d"), ("x", "c")])

    def test_circles(self):
        reader = Format("a", {"a": ("list", "b", 0, 1), "b": ("list", "a", 0, 1)})
        writer = Format("u", {"u": ("list", "v", 0, 1), "v": ("list", "w", 0, 1), "w": ("list", "u", 0, 1)})
        self.assertEqual(met_pairs(reader, writer), sorted(itertools.product("ab", "uvw")))
        self.assertEqual(met_pairs(writer, reader), sorted(itertools.product("uvw", "ab")))
        self.assertEqual(met_pairs(reader, reader), [("a", "a"), ("b", "b")])

    def test_beside_all_values(self):
        source = random.Random(61)
        same = 0
        for _ in range(250):
            writer = random_format(source, source.randint(1, 4))
            reader = changed_format(source, writer) if source.random() < 0.8 else random_format(source,
                source.randint(1, 4))
            if can_read(reader, writer):
                pairs = traced(reader, writer, 5)
                met = met_pairs(reader, writer)
                self.assertLessEqual(pairs, set(met))
                self.assertEqual(met, sorted(set(met)))
                same += pairs == set(met)
        self.assertGreater(same, 90)

    def test_small_circles_beside_all_values(self):
        reader = Format("a", {"a": record(may("f", "b"), may("g", "x")), "b": choice(("t", "a"), fallback=("t", {})),
            "x": ("any",)})
        writer = Format("u", {"u": record(may("f", "v"), may("g", "w")), "v": choice(("s", "u"), ("t", "w")),
                              "w": record(may("f", "v"))})
        self.assertTrue(can_read(reader, writer))
        self.assertEqual(set(met_pairs(reader, writer)), traced(reader, writer, 7))


# Reader, writer, pairs beside that of the roots, empty names: the certificate is closed. Each of the others that
# follow breaks just one clause: (reader, writer, pairs, empty) with None for what stays.
II, JI, IJ, TT, XI = ("i", "i"), ("j", "i"), ("i", "j"), ("t", "t"), ("x", "i")
NO = ["none"]
CLAUSES = [
    # Any fits all.
    (("any",), ("any",), [], [], []),
    (("any",), record(need("a", "i")), [], [], []),
    # Of the others each fits one of its kind alone.
    (("integer", 0, 5), ("integer", 0, 5), [], [], [
        (("text", 5), None, None, None), (None, ("text", 5), None, None), (None, ("any",), None, None),
        (("list", "x", 0, 9), None, None, None), (record(), None, None, None),
        (choice(("a", "x"), fallback=("a", 0)), None, None, None),
    ]),
    # Integers and texts.
    (("integer", 0, 5), ("integer", 0, 5), [], [],
        [(None, ("integer", -1, 5), None, None), (None, ("integer", 0, 6), None, None)]),
    (("integer", -3, 5), ("integer", 0, 4), [], [],
        [(("integer", 1, 5), None, None, None), (("integer", -3, 3), None, None, None)]),
    (("text", 3), ("text", 3), [], [], [(("text", 2), None, None, None), (None, ("text", 4), None, None)]),
    (("text", 3), ("text", 0), [], [], []),
    # Lists.
    (("list", "i", 1, 4), ("list", "i", 1, 4), [II], [], [
        (("list", "i", 2, 4), None, None, None), (("list", "i", 1, 3), None, None, None), (None, None, [], None),
        (None, None, [JI], None), (("list", "t", 1, 4), None, None, None),
    ]),
    (("list", "j", 0, 9), ("list", "i", 2, 3), [JI], [], [(None, None, [], None), (None, None, [II, IJ], None)]),
    # A longest length of 0: the pair of the elements is not needed.
    (("list", "t", 0, 4), ("list", "i", 0, 0), [], [],
        [(None, ("list", "i", 0, 1), None, None), (("list", "t", 1, 4), None, None, None)]),
    # It counts as 0 if the element is in empty.
    (("list", "t", 0, 0), ("list", "none", 0, 9), [], NO, [
        (None, None, None, []), (("list", "t", 1, 9), None, None, None), (None, ("list", "i", 0, 9), None, None),
    ]),
    # Records: a field that the writer has not.
    (record(may("a", "i")), record(), [], [], [(record(need("a", "i")), None, None, None)]),
    (record(("a", "i", "default", 0)), record(), [], [], [(record(need("a", "i")), None, None, None)]),
    (record(), record(need("a", "i")), [], [], []),
    # One that it has.
    (record(need("a", "i")), record(need("a", "i")), [II], [], [
        (None, record(may("a", "i")), None, None), (None, None, [], None), (None, record(need("a", "t")), None, None),
        (record(need("a", "j")), None, None, None), (record(need("a", "i"), need("b", "i")), None, None, None),
    ]),
    (record(need("a", "i")), record(("a", "i", "default", 0)), [II], [], [(None, None, [], None)]),
    (record(may("a", "i")), record(may("a", "i")), [II], [],
        [(record(need("a", "i")), None, None, None), (None, None, [], None)]),
    (record(("a", "i", "default", 0)), record(may("a", "i")), [II], [], [(None, None, [], None)]),
    (record(may("a", "i"), may("b", "t")), record(need("a", "i"), may("b", "t")), [II, TT], [], [
        (None, None, [II], None), (None, None, [TT], None),
    ]),
    # One of a type in empty.
    (record(may("a", "t")), record(may("a", "none")), [], NO,
        [(None, None, None, []), (record(need("a", "t")), None, None, None)]),
    (record(need("a", "t")), record(need("a", "none")), [], NO, [(None, record(may("a", "none")), None, None)]),
    # Choices.
    (choice(("a", "i")), choice(("a", "i")), [II], [], [
        (None, None, [], None), (choice(("b", "i")), None, None, None),
        (None, choice(("a", "i"), ("b", "i")), None, None),
    ]),
    (choice(("a", "i"), ("b", "t")), choice(("a", "i")), [II], [], []),
    (choice(("a", "i"), fallback=("a", 0)), choice(("a", "i"), ("b", "t")), [II], [], [
        (choice(("a", "i")), None, None, None), (None, None, [], None),
    ]),
    (choice(("a", "i")), choice(("a", "i"), ("b", "none")), [II], NO, [(None, None, None, [])]),
    (choice(("a", "i"), ("b", "t")), choice(("a", "i"), ("b", "none")), [II], NO, [(None, None, None, [])]),
]


class Clauses(unittest.TestCase):
    def test_the_formats(self):
        for reading, writing, _, _, broken in CLAUSES:
            for one, other, _, _ in [(reading, writing, [], []), *broken]:
                for definition in (one, other):
                    self.assertTrue(definition is None or is_format(made(definition)), definition)

    def test_closed_and_broken(self):
        for reading, writing, pairs, empty, broken in CLAUSES:
            with self.subTest(reader=reading, writer=writing, pairs=pairs, empty=empty):
                certificate = ([ROOT, *pairs], empty)
                self.assertIs(is_certificate(made(reading), made(writing), certificate), True)
                for order in itertools.permutations(certificate[0]):
                    self.assertIs(is_certificate(made(reading), made(writing), (list(order), empty)), True)
            for one, other, others, names in broken:
                certificate = ([ROOT, *(pairs if others is None else others)], empty if names is None else names)
                with self.subTest(reader=one or reading, writer=other or writing, certificate=certificate):
                    self.assertIs(is_certificate(made(one or reading), made(other or writing), certificate), False)

    def test_names_in_empty(self):
        rows = {
            "i": ("integer", 0, 5), "loop": record(need("a", "loop")), "def": record(("a", "def", "default", 0)),
            "opt": record(may("a", "loop")), "ones": ("list", "loop", 1, 9), "some": ("list", "loop", 0, 9),
            "all": choice(("a", "loop"), ("b", "ones")), "one": choice(("a", "loop"), ("b", "i")), "any": ("any",),
            "text": ("text", 0),
            "two": record(need("a", "i"), need("b", "loop")), "lists": ("list", "i", 1, 9),
        }
        reader, writer = Format("i", {"i": rows["i"]}), Format("i", rows)
        pair = [("i", "i")]
        for names in [[], ["loop"], ["def"], ["loop", "ones"], ["ones", "loop"], ["loop", "ones", "all"],
                ["loop", "two"], ["def", "loop"]]:
            self.assertIs(is_certificate(reader, writer, (pair, names)), True, names)
        for names in [
            ["i"], ["any"], ["text"], ["opt"], ["loop", "opt"], ["some"], ["loop", "some"], ["loop", "one"], ["ones"],
            ["all"],
            ["loop", "all"], ["all", "ones"], ["two"], ["lists"], ["loop", "i"], ["nothere"], ["loop", "nothere"],
        ]:
            self.assertIs(is_certificate(reader, writer, (pair, names)), False, names)
        # Of the reader's names none counts.
        self.assertIs(is_certificate(Format("i", {**rows, "mine": record(need("a", "mine"))}), writer,
            (pair, ["mine"])), False)

    def test_the_roots(self):
        form = Format("i", {"i": ("integer", 0, 0), "j": ("integer", 0, 0), **EMPTY})
        self.assertIs(is_certificate(form, form, ([], [])), False)
        self.assertIs(is_certificate(form, form, ([("j", "j")], [])), False)
        self.assertIs(is_certificate(form, form, ([("i", "j"), ("j", "i")], ["none"])), False)
        self.assertIs(is_certificate(form, form, ([("i", "i")], [])), True)
        self.assertIs(is_certificate(form, Format("none", form.definitions), ([], ["none"])), True)
        self.assertIs(is_certificate(form, Format("none", form.definitions), ([], [])), False)
        self.assertIs(is_certificate(Format("none", form.definitions), form, ([], ["none"])), False)
        self.assertIs(is_certificate(form, Format("j", form.definitions), ([("j", "i")], [])), False)

    def test_names_that_are_in_neither_format(self):
        reader, writer = Format("i", {"i": ("integer", 0, 0), "x": ("any",)}), Format("i",
            {"i": ("integer", 0, 0), "y": ("any",)})
        good = [("i", "i")]
        self.assertIs(is_certificate(reader, writer, (good, [])), True)
        self.assertIs(is_certificate(reader, writer, ([*good, ("x", "y")], [])), True)
        for pair in [("q", "i"), ("i", "q"), ("q", "q"), ("x", "q"), ("y", "y"), ("x", "x"), ("", ""), ("x", "")]:
            self.assertIs(is_certificate(reader, writer, ([*good, pair], [])), False, pair)
            self.assertIs(is_certificate(reader, writer, ([pair, *good], [])), False, pair)
        self.assertIs(is_certificate(reader, writer, (good, ["q"])), False)

    def test_more_than_needed(self):
        form = made(record(may("a", "i")))
        self.assertIs(is_certificate(form, form, ([ROOT, II, ("j", "j"), TT, XI], ["none"])), True)
        self.assertIs(is_certificate(form, form, ([ROOT, II, II, ROOT], ["none", "none"])), True)
        self.assertIs(is_certificate(form, form, ([ROOT, II, IJ], ["none"])), False)
        self.assertIs(is_certificate(form, form, ([ROOT, II, ("t", "i")], [])), False)
        # A pair of a type without values fits if the two definitions do.
        self.assertIs(is_certificate(form, form, ([ROOT, II, ("none", "none")], ["none"])), True)
        self.assertIs(is_certificate(form, form, ([ROOT, II, ("i", "none")], ["none"])), False)


class Certificates(unittest.TestCase):
    def test_the_least_one(self):
        reader = Format("a", {"a": record(may("f", "i"), need("g", "l")), "i": ("integer", 0, 9),
            "l": ("list", "a", 0, 9)})
        writer = Format("u", {
            "u": record(may("f", "j"), need("g", "m"), may("h", "z")), "j": ("integer", 0, 5),
            "m": ("list", "u", 0, 3), **EMPTY,
            "z": choice(("t", "none")), "idle": ("list", "z", 2, 2), "more": ("text", 3),
        })
        certificate = certify(reader, writer)
        self.assertEqual(certificate, ([("a", "u"), ("i", "j"), ("l", "m")], ["idle", "none", "z"]))
        self.assertEqual([type(part) for part in (certificate, *certificate)], [tuple, list, list])
        self.assertIs(is_certificate(reader, writer, certificate), True)
        self.assertIsNone(certify(writer, reader))

    def test_a_writer_without_values(self):
        form = Format("none", {**LEAVES})
        self.assertEqual(certify(made(("integer", 0, 0)), form), ([], ["none"]))
        self.assertEqual(certify(made(("any",)), form), ([], ["none"]))
        self.assertIsNone(certify(form, made(("integer", 0, 0))))

    def test_random_formats(self):
        source = random.Random(67)
        told = [0, 0]
        for _ in range(400):
            writer = random_format(source, source.randint(1, 4))
            reader = changed_format(source, writer) if source.random() < 0.8 else random_format(source,
                source.randint(1, 3))
            for one, other in ((reader, writer), (writer, reader), (writer, writer)):
                told[self.check(one, other)] += 1
        self.assertGreater(min(told), 200)

    def check(self, reader, writer):
        certificate = certify(reader, writer)
        self.assertIs(certificate is None, not can_read(reader, writer))
        least = (met_pairs(reader, writer), names_without_values(writer))
        self.assertIs(is_certificate(reader, writer, least), certificate is not None)
        if certificate is None:
            every = list(itertools.product(reader.names(), writer.names()))
            self.assertIs(is_certificate(reader, writer, (every, least[1])), False)
            return 0
        self.assertEqual(certificate, least)
        pairs, empty = certificate
        for at in range(len(pairs)):
            self.assertIs(is_certificate(reader, writer, (pairs[:at] + pairs[at + 1:], empty)), False)
        for name in writer.names():
            if name not in empty:
                self.assertIs(is_certificate(reader, writer, (pairs, [*empty, name])), False)
        return 1

    def test_all_certificates_of_small_formats(self):
        source = random.Random(71)
        closed_ones = 0
        for _ in range(40):
            writer = random_format(source, source.randint(1, 2))
            reader = changed_format(source, writer) if source.random() < 0.8 else random_format(source, 2)
            every = list(itertools.product(reader.names(), writer.names()))
            without = names_without_values(writer)
            met = set(met_pairs(reader, writer))
            closed = False
            for pairs in subsets(every):
                for empty in subsets(writer.names()):
                    if is_certificate(reader, writer, (pairs, empty)):
                        closed = True
                        closed_ones += 1
                        self.assertLessEqual(met, set(pairs))
                        self.assertLessEqual(set(empty), set(without))
            self.assertIs(closed, can_read(reader, writer))
        self.assertGreater(closed_ones, 60)

    def test_arguments_stay(self):
        reader, writer = made(record(may("a", "i"))), made(record(need("a", "i")))
        certificate = certify(reader, writer)
        before = copy.deepcopy([certificate, reader.definitions, writer.definitions])
        is_certificate(reader, writer, certificate)
        self.assertEqual([certificate, reader.definitions, writer.definitions], before)
        certify(reader, writer)[0].append("more")
        certify(reader, writer)[1].append("more")
        met_pairs(reader, writer).append("more")
        self.assertEqual(certify(reader, writer), certificate)


def subsets(entries):
    for many in range(len(entries) + 1):
        yield from (list(some) for some in itertools.combinations(entries, many))


class GreatFormats(unittest.TestCase):
    def test_circles(self):
        for shortest in (0, 9):
            form = in_circles(["optional"] * 4, shortest)
            pairs, empty = certify(form, form)
            self.assertEqual((pairs, empty), ([(name, name) for name in form.names()], []))
            self.assertIs(is_certificate(form, form, (pairs, empty)), True)
            wider = Format("n00", {**form.definitions, "n07": ("any",)})
            self.assertIs(is_certificate(wider, form, certify(wider, form)), True)
            self.assertIsNone(certify(form, wider))

    def test_all_pairs_of_twelve_and_eleven(self):
        def ring(many, letter):
            names = [letter + str(at) for at in range(many)]
            return Format(names[0], {name: ("list", names[(at + 1) % many], 0, 9) for at, name in enumerate(names)})

        reader, writer = ring(11, "r"), ring(12, "w")
        pairs, empty = certify(reader, writer)
        self.assertEqual((len(pairs), empty), (132, []))
        self.assertIs(is_certificate(reader, writer, (pairs, empty)), True)
        self.assertIs(is_certificate(reader, writer, (pairs[:50] + pairs[51:], empty)), False)

    def test_nothing_but_definitions_without_values(self):
        names = ["n%02d" % at for at in range(12)]
        writer = Format("n00", {name: ("list", names[(at + 1) % 12], 9, 9) for at, name in enumerate(names)})
        self.assertEqual(certify(Format("a", {"a": ("integer", 0, 0)}), writer), ([], names))
        self.assertIs(is_certificate(writer, writer, ([], names)), True)
        self.assertIs(is_certificate(writer, writer, ([], names[1:])), False)


if __name__ == "__main__":
    unittest.main()
