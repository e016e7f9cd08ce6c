"""Points 34 to 36 and formatfit/registry.py: versions that keep promises, and values that are carried between them."""

import copy
import random
import unittest

from formatfit.compatibility import can_read
from formatfit.errors import BrokenPromise, NoSuchVersion, TooLarge, TooMany
from formatfit.format_text import format_text
from formatfit.formats import Format
from formatfit.reading import read
from formatfit.registry import Registry
from formatfit.values import size_of
from formatfit.writing import is_written
from listing import Listing, looser_format, random_format, sized
from listing import may, need, record

PROMISES = ["backward", "forward", "both"]
SCOPES = ["last", "all"]


def span(least, greatest):
    return Format("i", {"i": ("integer", least, greatest)})


def fields(*parts):
    return Format("r", {"r": record(*parts), "i": ("integer", 0, 9), "t": ("text", 3), "l": ("list", "t", 0, 3)})


def keeps(promise, form, earlier):
    """Whether a format keeps a promise, by the words of [34]."""
    return {"backward": can_read(form, earlier), "forward": can_read(earlier, form),
        "both": can_read(form, earlier) and can_read(earlier, form)}[promise]


def state(registry):
    return [registry.promise, registry.scope, list(registry.versions), registry.count()]


class Fields(unittest.TestCase):
    def test_a_new_one(self):
        for promise in PROMISES:
            for scope in SCOPES:
                registry = Registry(promise, scope)
                self.assertEqual((registry.promise, registry.scope, registry.versions), (promise, scope, []))
                self.assertEqual(registry.count(), 0)
        self.assertIsNot(Registry("both", "all").versions, Registry("both", "all").versions)

    def test_numbers_from_one(self):
        registry = Registry("backward", "all")
        forms = [span(0, greatest) for greatest in range(5)]
        for number, form in enumerate(forms, 1):
            self.assertEqual(registry.admit(form), number)
            self.assertEqual(registry.count(), number)
            texts = [format_text(known) for known in registry.versions]
            self.assertEqual(texts, [format_text(known) for known in forms[:number]])
        for number, form in enumerate(forms, 1):
            self.assertEqual(registry.version(number).definitions, form.definitions)
            self.assertIs(type(registry.version(number)), Format)


class Admit(unittest.TestCase):
    def refused(self, registry, form, version):
        before = state(registry)
        with self.assertRaises(BrokenPromise) as caught:
            registry.admit(form)
        self.assertEqual(caught.exception.version, version)
        self.assertEqual(state(registry), before)

    def filled(self, promise, scope, forms):
        registry = Registry(promise, scope)
        for number, form in enumerate(forms, 1):
            self.assertEqual(registry.admit(form), number)
        return registry

    def test_the_first_one_always(self):
        for promise in PROMISES:
            for scope in SCOPES:
                self.assertEqual(Registry(promise, scope).admit(span(3, 4)), 1)

    def test_each_promise(self):
        wider, narrower, same, other = span(0, 9), span(2, 3), span(1, 5), span(4, 9)
        for scope in SCOPES:
            for promise, good, bad in [
                ("backward", [wider, same], [narrower, other]), ("forward", [narrower, same], [wider, other]),
                ("both", [same], [wider, narrower, other]),
            ]:
                for form in good:
                    self.assertEqual(self.filled(promise, scope, [span(1, 5)]).admit(form), 2)
                for form in bad:
                    self.refused(self.filled(promise, scope, [span(1, 5)]), form, 1)

    def test_a_field_more(self):
        one, two = fields(need("a", "i")), fields(need("a", "i"), need("b", "i"))
        three = fields(need("a", "i"), ("b", "i", "default", 4))
        self.refused(self.filled("backward", "all", [one]), two, 1)
        self.assertEqual(self.filled("backward", "all", [one]).admit(three), 2)
        self.assertEqual(self.filled("forward", "all", [one]).admit(two), 2)
        self.refused(self.filled("both", "all", [one]), two, 1)
        self.assertEqual(self.filled("both", "all", [one, three]).admit(one), 3)

    def test_the_scope(self):
        # The last one writes a list where the first one reads a text: all but their field of this name is the same.
        first, second, third = fields(may("a", "t")), fields(), fields(may("a", "l"))
        for promise in PROMISES:
            self.assertEqual(self.filled(promise, "last", [first, second]).admit(third), 3)
            self.refused(self.filled(promise, "all", [first, second]), third, 1)
            self.assertEqual(self.filled(promise, "last", [second, first, second]).admit(third), 4)
            self.refused(self.filled(promise, "all", [second, first, second]), third, 2)
            self.refused(self.filled(promise, "all", [second, second, first, first, second]), third, 3)

    def test_the_least_number_of_the_scope(self):
        forms = [span(0, greatest) for greatest in (1, 3, 5, 5, 7)]
        for form, version in [(span(0, 6), 5), (span(0, 4), 3), (span(0, 2), 2), (span(0, 0), 1), (span(1, 9), 1)]:
            self.refused(self.filled("backward", "all", forms), form, version)
            self.refused(self.filled("backward", "last", forms), form, 5)
        self.refused(self.filled("forward", "all", forms[::-1]), span(0, 2), 5)
        self.refused(self.filled("forward", "last", forms[::-1]), span(0, 2), 5)
        self.refused(self.filled("forward", "all", forms[::-1]), span(0, 6), 2)
        self.refused(self.filled("forward", "last", forms[::-1]), span(0, 6), 5)
        self.refused(self.filled("forward", "all", forms[::-1]), span(0, 8), 1)
        # Towards the first two it is read, but not towards the third one, which requires its field.
        one, two = fields(need("a", "i"), ("b", "t", "default", "")), fields(need("a", "i"), need("b", "t"))
        self.refused(self.filled("both", "all", [one, one, two]), fields(need("a", "i")), 3)
        self.refused(self.filled("both", "last", [one, one, two]), fields(need("a", "i")), 3)
        self.assertEqual(self.filled("both", "all", [one, one]).admit(fields(need("a", "i"))), 3)

    def test_twenty(self):
        for promise in PROMISES:
            for scope in SCOPES:
                registry = self.filled(promise, scope, [span(0, 5)] * 20)
                before = state(registry)
                for form in (span(0, 5), span(0, 3), span(0, 9), Format("a", {"a": ("any",)})):
                    self.assertRaises(TooMany, registry.admit, form)
                    self.assertEqual(state(registry), before)
                self.assertTrue(registry.withdraw())
                self.refused(registry, span(2, 9), 1 if scope == "all" else 19)
                self.assertEqual(registry.admit(span(0, 5)), 20)
                self.assertRaises(TooMany, registry.admit, span(0, 5))

    def test_random_formats(self):
        source = random.Random(163)
        told = {"admitted": 0, "refused": 0}
        for _ in range(120):
            promise, scope = source.choice(PROMISES), source.choice(SCOPES)
            registry = Registry(promise, scope)
            form = random_format(source, source.randint(1, 3))
            for _ in range(6):
                known = list(registry.versions)
                numbers = range(1, len(known) + 1)
                broken = [number for number in (numbers if scope == "all" else list(numbers)[-1:])
                    if not keeps(promise, form, known[number - 1])]
                if broken:
                    self.refused(registry, form, broken[0])
                    told["refused"] += 1
                else:
                    self.assertEqual(registry.admit(form), len(known) + 1)
                    told["admitted"] += 1
                form = looser_format(source, source.choice(registry.versions)) if source.random() < 0.5 else form
                form = form if len(form.definitions) < 7 else registry.versions[0]
        self.assertGreater(min(told.values()), 50)


class Withdraw(unittest.TestCase):
    def test_with_versions_and_without(self):
        registry = Registry("backward", "last")
        self.assertIs(registry.withdraw(), False)
        self.assertEqual(registry.versions, [])
        forms = [span(0, 1), span(0, 3), span(0, 5)]
        for form in forms:
            registry.admit(form)
        for many in (2, 1, 0):
            self.assertIs(registry.withdraw(), True)
            left = [known.definitions for known in registry.versions]
            self.assertEqual(left, [form.definitions for form in forms[:many]])
        self.assertIs(registry.withdraw(), False)
        self.assertEqual(registry.count(), 0)

    def test_what_was_withdrawn_is_no_version(self):
        for scope in SCOPES:
            registry = Registry("backward", scope)
            for form in (span(0, 1), span(0, 9)):
                registry.admit(form)
            self.assertRaises(BrokenPromise, registry.admit, span(0, 4))
            registry.withdraw()
            self.assertEqual(registry.admit(span(0, 4)), 2)
            self.assertRaises(NoSuchVersion, registry.version, 3)


class Version(unittest.TestCase):
    def test_numbers(self):
        registry = Registry("both", "all")
        for many in range(4):
            for number in (-3, -1, 0, many + 1, many + 2, 21, 1000):
                with self.assertRaises(NoSuchVersion) as caught:
                    registry.version(number)
                self.assertEqual(caught.exception.number, number)
            for number in range(1, many + 1):
                self.assertEqual(registry.version(number).definitions, span(0, 7).definitions)
            registry.admit(span(0, 7))


class Carry(unittest.TestCase):
    def registry(self, *forms):
        registry = Registry("backward", "last")
        # The promises are not asked here.
        registry.versions.extend(forms)
        return registry

    def test_up_and_down(self):
        registry = self.registry(
            fields(need("a", "i")), fields(need("a", "i"), ("b", "i", "default", 2)),
            fields(("a", "i", "default", 7), need("b", "i")), fields(need("b", "i"), may("c", "i")),
        )
        for start, end, value, carried in [
            (1, 2, {"a": 1}, {"a": 1, "b": 2}), (1, 3, {"a": 1}, {"a": 1, "b": 2}), (1, 4, {"a": 1}, {"b": 2}),
            (2, 4, {"a": 1, "b": 5}, {"b": 5}), (4, 3, {"b": 5, "c": 1}, {"a": 7, "b": 5}),
            (4, 1, {"b": 5, "c": 1}, {"a": 7}),
            (3, 1, {"a": 4, "b": 5}, {"a": 4}), (4, 2, {"b": 5}, {"a": 7, "b": 5}), (3, 4, {"a": 1, "b": 5}, {"b": 5}),
        ]:
            self.assertEqual(registry.carry(value, start, end), ("value", carried), (start, end))

    def test_between_the_same_version_it_is_told_as_it_is(self):
        registry = self.registry(span(0, 1), span(0, 3))
        for number in (1, 2):
            # Nothing is read: not even what the version does not write.
            for value in (0, 1, 9, "ab", [{"b": 1, "a": ("t", [])}], {}):
                self.assertEqual(registry.carry(value, number, number), ("value", value))

    def test_the_first_version_does_not_read(self):
        registry = self.registry(span(0, 1), span(0, 9))
        self.assertEqual(registry.carry(7, 1, 2), ("value", 7))
        self.assertEqual(registry.carry(7, 2, 1), ("failure", "out of range", [], 1))

    def test_failures_tell_the_version(self):
        registry = self.registry(span(0, 9), span(0, 5), span(0, 7), span(0, 3), span(0, 9))
        for start, end, value, version in [
            (1, 2, 6, 2), (1, 5, 6, 2), (1, 5, 4, 4), (1, 3, 4, None), (5, 1, 4, 4), (5, 1, 8, 4), (5, 4, 4, 4),
            (5, 3, 2, None), (3, 1, 6, 2), (3, 2, 6, 2), (3, 5, 6, 4), (2, 1, 6, None), (1, 5, 3, None),
            (5, 1, 3, None),
        ]:
            told = ("value", value) if version is None else ("failure", "out of range", [], version)
            self.assertEqual(registry.carry(value, start, end), told, (start, end, value))

    def test_failures_tell_reason_and_path(self):
        registry = self.registry(
            fields(may("a", "l")), fields(may("a", "l"), ("b", "l", "default", ["q"])), fields(need("a", "l")),
            fields(may("a", "t"), may("b", "l")),
        )
        self.assertEqual(registry.carry({"a": ["x", "xyza"]}, 1, 4), ("failure", "too long", ["a", 1], 2))
        self.assertEqual(registry.carry({}, 1, 4), ("failure", "missing field", ["a"], 3))
        self.assertEqual(registry.carry({"a": []}, 1, 4), ("failure", "wrong kind", ["a"], 4))
        self.assertEqual(registry.carry({"a": "x"}, 4, 1), ("failure", "wrong kind", ["a"], 3))
        self.assertEqual(registry.carry({}, 2, 1), ("value", {}))
        self.assertIs(type(registry.carry({}, 1, 4)[2]), list)

    def test_no_such_version_for_the_start_first(self):
        registry = self.registry(span(0, 1), span(0, 2))
        for start, end, number in [
            (0, 1, 0), (1, 0, 0), (3, 1, 3), (1, 3, 3), (0, 3, 0), (3, 0, 3), (4, 4, 4), (-1, -1, -1), (5, 6, 5),
            # Neither a version between nor the next one is told.
            (1, 5, 5), (2, 20, 20), (2, -3, -3), (1, -1, -1),
        ]:
            with self.assertRaises(NoSuchVersion) as caught:
                registry.carry(0, start, end)
            self.assertEqual(caught.exception.number, number, (start, end))
        with self.assertRaises(NoSuchVersion) as caught:
            Registry("both", "all").carry(0, 1, 1)
        self.assertEqual(caught.exception.number, 1)

    def test_too_large_exactly_where_a_step_makes_it_so(self):
        rows = {"l": ("list", "m", 0, 9), "m": ("list", "i", 0, 9), "i": ("integer", 0, 9), "x": ("any",)}
        great = [0] * 149
        plain = Format("r", {**rows, "r": record(may("a", "x"), may("b", "x"))})
        filled = ("a", "x", "default", great)
        adding = Format("r", {**rows, "r": record(filled, ("b", "x", "default", great))})
        adding_more = Format("r", {**rows, "r": record(filled, ("b", "x", "default", great + [0]))})
        cutting = Format("r", {**rows, "r": record(may("a", "x"))})
        self.assertEqual(size_of(read(plain, {"a": [0] * 149, "b": [0] * 148})[1]), 300)
        value = {"a": [0] * 148}
        registry = self.registry(plain, adding, cutting, adding_more, cutting)
        # 1 and 149 and 150 are 300; one more is too large, even if a later step makes it less.
        self.assertEqual(size_of(registry.carry(value, 1, 2)[1]), 300)
        self.assertEqual(registry.carry(value, 1, 3), ("value", value))
        self.assertEqual(size_of(registry.carry(value, 3, 2)[1]), 300)
        self.assertRaises(TooLarge, registry.carry, {"a": [0] * 149}, 1, 2)
        self.assertRaises(TooLarge, registry.carry, {"a": [0] * 149}, 1, 3)
        self.assertRaises(TooLarge, registry.carry, value, 1, 4)
        self.assertRaises(TooLarge, registry.carry, value, 1, 5)
        self.assertRaises(TooLarge, registry.carry, value, 5, 4)
        self.assertEqual(registry.carry({"a": [0] * 147}, 5, 1)[0], "value")
        # A failure ahead of it is told; behind it, it is not.
        failing = Format("r", {**rows, "r": record(need("c", "x"))})
        registry = self.registry(plain, failing, adding)
        self.assertEqual(registry.carry({"a": [0] * 149}, 1, 3), ("failure", "missing field", ["c"], 2))
        self.assertRaises(TooLarge, registry.carry, {}, 2, 3)
        registry = self.registry(plain, adding, failing)
        self.assertRaises(TooLarge, registry.carry, {"a": [0] * 149}, 1, 3)

    def test_nothing_changes_and_what_is_returned_is_new(self):
        registry = self.registry(span(0, 1), Format("a", {"a": ("any",)}))
        value = {"b": [1], "a": 2}
        for start, end in ((1, 2), (2, 2), (1, 1)):
            carried = registry.carry(value, start, end)[1]
            self.assertEqual(carried, value)
            self.assertIsNot(carried, value)
            self.assertEqual(list(carried), ["a", "b"])
        self.assertEqual(list(value), ["b", "a"])
        before = state(registry)
        for wrong in ((3, 1), (1, 3)):
            self.assertRaises(NoSuchVersion, registry.carry, 0, *wrong)
        self.assertEqual(state(registry), before)


class Fork(unittest.TestCase):
    def test_forks_go_on_alone(self):
        registry = Registry("backward", "last")
        for form in (span(0, 1), span(0, 3)):
            registry.admit(form)
        fork = registry.fork()
        self.assertIs(type(fork), Registry)
        self.assertEqual(state(fork), state(registry))
        self.assertIsNot(fork.versions, registry.versions)
        self.assertEqual(fork.admit(span(0, 5)), 3)
        self.assertEqual(registry.count(), 2)
        self.assertEqual(registry.admit(span(-1, 3)), 3)
        self.assertTrue(registry.withdraw() and registry.withdraw() and registry.withdraw())
        self.assertEqual((fork.count(), registry.count()), (3, 0))
        self.assertEqual(fork.version(3).definitions, span(0, 5).definitions)
        again = fork.fork()
        self.assertTrue(again.withdraw())
        self.assertEqual((again.count(), fork.count()), (2, 3))

    def test_with_each_promise_and_scope(self):
        for promise in PROMISES:
            for scope in SCOPES:
                fork = Registry(promise, scope).fork()
                self.assertEqual((fork.promise, fork.scope, fork.versions), (promise, scope, []))


class Facts(unittest.TestCase):
    def test_values_are_carried(self):
        source = random.Random(167)
        carried = {"up": 0, "down": 0}
        for _ in range(150):
            promise, scope = source.choice(PROMISES), source.choice(SCOPES)
            registry = Registry(promise, scope)
            form = random_format(source, source.randint(1, 3))
            for _ in range(8):
                try:
                    registry.admit(form)
                except BrokenPromise:
                    pass
                base = source.choice([known for known in registry.versions if len(known.definitions) < 7])
                form = looser_format(source, base) if promise != "forward" or source.random() < 0.2 else base
                if promise != "backward" and source.random() < 0.6:
                    form = narrower(source, base)
            self.check(registry, promise, carried)
        self.assertGreater(min(carried.values()), 300)

    def check(self, registry, promise, carried):
        for start in range(1, registry.count() + 1):
            values = Listing(registry.version(start)).up_to(registry.version(start).root, 4)[:20]
            for end in range(1, registry.count() + 1):
                if (start < end and promise != "forward") or (start > end and promise != "backward"):
                    carried["up" if start < end else "down"] += len(values)
                    for value in values:
                        told = registry.carry(value, start, end)
                        self.assertEqual(told[0], "value")
                        self.assertTrue(is_written(registry.version(end), told[1]))


def narrower(source, form):
    """A format that writes less: one optional field is always there, one integer or length has less room."""
    rows = dict(form.definitions)
    name = source.choice(sorted(rows))
    definition = rows[name]
    if definition[0] in ("integer", "list") and definition[-2] < definition[-1]:
        rows[name] = (*definition[:-1], definition[-1] - 1)
    elif definition[0] == "record" and definition[1]:
        first = definition[1][0]
        rows[name] = ("record", ((first[0], first[1], "required"), *definition[1][1:]))
    elif definition[0] == "choice":
        rows[name] = ("choice", definition[1][:1], None)
    return Format(form.root, rows)


class Arguments(unittest.TestCase):
    def test_they_stay(self):
        form = sized(300)
        before = copy.deepcopy(form.definitions)
        registry = Registry("both", "all")
        for _ in range(3):
            registry.admit(form)
        registry.carry(0, 1, 3)
        registry.withdraw()
        self.assertEqual(form.definitions, before)


if __name__ == "__main__":
    unittest.main()
