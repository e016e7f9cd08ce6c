"""Points 37 to 40 and formatfit/journal.py: records of changes, what is recovered of them, devices that lose power."""

import copy
import itertools
import random
import unittest

from formatfit.errors import BrokenPromise, PowerCut, ShutError, TooMany
from formatfit.format_text import format_text, parse_format
from formatfit.formats import Format
from formatfit.journal import Device, JournaledRegistry, opened, record_of, recovered
from formatfit.registry import Registry
from listing import may, need, random_format, record

TEXTS = ["root a\na any", "root i\ni integer 0 5", "root r\ni integer -3 9\nr record a i default -2, b r optional"]


def span(least, greatest):
    return Format("i", {"i": ("integer", least, greatest)})


def long_text(many):
    """The canonical text of a format, of so many characters, some hundred."""
    empty = Format("r", {"d": ("any",), "r": record(("a", "d", "default", []))})
    left = many - len(format_text(empty))
    numbers = []
    while left > 0:
        # Each number but the first one stands behind a comma and a space. One or two characters are too few for it.
        left -= 2 if numbers else 0
        figures = 2 if left in (5, 6) else min(left, 4)
        numbers.append(int("1" * figures))
        left -= figures
    return format_text(Format("r", {**empty.definitions, "r": record(("a", "d", "default", numbers))}))


def octets_of(texts):
    return [octet for text in texts for octet in record_of(text)]


class Records(unittest.TestCase):
    def test_of_a_withdrawal(self):
        self.assertEqual(record_of(None), [0, 1, 2, 2, 170])

    def test_of_a_version(self):
        body = [1, 114, 111, 111, 116, 32, 97, 10, 97, 32, 97, 110, 121]
        self.assertEqual(record_of("root a\na any"), [0, 13, *body, 25, 170])
        self.assertEqual(sum(body), 4 * 256 + 25)

    def test_longer_ones(self):
        for many in (253, 254, 255, 256, 257, 300, 511, 512, 900):
            text = long_text(many)
            self.assertEqual(len(text), many)
            self.assertEqual(format_text(parse_format(text)), text)
            found = record_of(text)
            body = [1] + list(text.encode("ascii"))
            self.assertEqual(found, [(many + 1) // 256, (many + 1) % 256, *body, sum(body) % 256, 170])
            self.assertIs(type(found), list)
            self.assertTrue(all(type(octet) is int and 0 <= octet <= 255 for octet in found))


class Recovered(unittest.TestCase):
    def test_none_one_and_several(self):
        for texts in [
            [], [TEXTS[0]], [None], TEXTS, [TEXTS[1], None, TEXTS[0]], [None, None], [TEXTS[2]] * 5,
            [long_text(255), long_text(600), None],
        ]:
            octets = octets_of(texts)
            found = recovered(octets)
            self.assertEqual(found, (texts, len(octets)))
            self.assertEqual([type(found), type(found[0])], [tuple, list])

    def test_cut_at_every_place(self):
        texts = [TEXTS[0], None, long_text(300), TEXTS[1], None]
        octets = octets_of(texts)
        ends = list(itertools.accumulate((len(record_of(text)) for text in texts), initial=0))
        for place in range(len(octets) + 1):
            many = sum(end <= place for end in ends) - 1
            self.assertEqual(recovered(octets[:place]), (texts[:many], ends[many]), place)

    def test_each_octet_exchanged(self):
        texts = [TEXTS[0], None, TEXTS[1]]
        octets = octets_of(texts)
        ends = list(itertools.accumulate((len(record_of(text)) for text in texts), initial=0))
        for place in range(len(octets)):
            many = sum(end <= place for end in ends) - 1
            for other in {*range(0, 256, 7), octets[place] ^ 1, (octets[place] + 1) % 256, 1, 2, 170} - {octets[place]}:
                exchanged = [*octets[:place], other, *octets[place + 1:]]
                self.assertEqual(recovered(exchanged), (texts[:many], ends[many]), (place, other))

    def test_octets_behind(self):
        octets = octets_of(TEXTS)
        for rest in [
            [0], [170], [0, 0], [0, 1], [0, 1, 2], [0, 1, 2, 2], [0, 0, 0, 170], [1, 2, 3], [255] * 9, [0] * 300,
            [0, 1, 2, 2, 171], [0, 1, 2, 3, 170],
        ]:
            self.assertEqual(recovered([*octets, *rest]), (TEXTS, len(octets)), rest)
            self.assertEqual(recovered(rest), ([], 0), rest)
            # What is behind a record that is not whole does not count, whole or not.
            self.assertEqual(recovered([*octets, *rest, *octets])[0][:3], TEXTS)
        self.assertEqual(recovered([*octets, 0, 1, 2, 3, 170, *octets]), (TEXTS, len(octets)))
        self.assertEqual(recovered([*octets, *record_of(None), 9, *octets]), ([*TEXTS, None], len(octets) + 5))

    def with_body(self, body):
        return [len(body) // 256, len(body) % 256, *body, sum(body) % 256, 170]

    def test_bodies(self):
        good = list(TEXTS[0].encode("ascii"))
        self.assertEqual(recovered(self.with_body([1, *good])), ([TEXTS[0]], 17))
        self.assertEqual(recovered(self.with_body([2])), ([None], 5))
        for body in [
            [], [0], [1], [3], [2, 2], [2, 0], [2, *good], [0, *good], [3, *good], good, [1, 1, *good], [1, *good, 10],
            [1, 2], [1, *good, 0], [1, *good, 255], [1, 32, *good], [170], [1, 10], [1, *good[:-1], good[-1] + 128],
        ]:
            self.assertEqual(recovered(self.with_body(body)), ([], 0), body)
            self.assertEqual(recovered([*record_of(None), *self.with_body(body)]), ([None], 5), body)

    def test_texts_that_are_not_canonical_or_of_no_format(self):
        thirteen = "root a00\n" + "\n".join("a%02d any" % at for at in range(13))
        five = [name + " a" for name in "abcde"]
        wrong = [
            "", "root", "root a", "root a\na", "root a\na foo", "Root a\na any", "root A\nA any", "root a\na choice",
            # Not canonical.
            "root a\na  any", "root a\na any ", " root a\na any", "root a\na any\n", "root a\na any\tb",
            "root a\na record b a optional,c a optional", "root a\na record x b default(6)\nb any",
            "root a\na record x b default {d: 1, c: 2}\nb any", "root a\na record x b default [1,2]\nb any",
            "root a\na record x b default[1]\nb any", "root a\na text 01", "root a\na integer -0 1",
            # Of no format.
            "root b\na any", "root a\nb any\na any", "root a\na any\na any", "root a\na integer 1 0",
            "root a\na list b 0 1", "root a\na list a 2 1", "root a\na record b a, a a", "root a\na record b a, b a",
            "root a\na record x b default 6\nb integer 0 5", "root a\na choice a a fallback b(0)",
            # Beyond the bounds.
            "root a\na integer 0 1000000", "root a\na text 10", "root a\na list a 0 10", "root a\na text -1", thirteen,
            "root a\na record " + " optional, ".join(five), "root a\na choice " + ", ".join(five),
            "root abcdefghi\nabcdefghi any", "root a\na integer 0 " + "9" * 5000,
            'root a\na record x b default "' + "q" * 21 + '"\nb any',
        ]
        for text in wrong:
            self.assertEqual(recovered(record_of(text)), ([], 0), text)
        right = [
            "root a\na record x b default {c: 2, d: 1}\nb any", 'root a\na record x b default "q"\nb any',
            "root a\na choice t a, u b fallback u([-1, 2])\nb any", "root a\na record", "root a\na text 0",
            "root a00\n" + "\n".join("a%02d any" % at for at in range(12)), "root a\na choice " + ", ".join(five[:4]),
        ]
        self.assertEqual(recovered(octets_of(right)), (right, len(octets_of(right))))

    def test_marks_sums_and_lengths(self):
        good = record_of(TEXTS[1])
        for place, change in itertools.product((0, 1, -1, -2), (-100, -2, -1, 1, 2, 100)):
            wrong = list(good)
            wrong[place] = (wrong[place] + change) % 256
            self.assertEqual(recovered(wrong), ([], 0), (place, change))
            self.assertEqual(recovered(wrong + good), ([], 0), (place, change))
            self.assertEqual(recovered(good + wrong + good), ([TEXTS[1]], len(good)), (place, change))

    def test_the_sum_is_that_of_the_body_alone(self):
        for text in [*TEXTS, long_text(256), long_text(700)]:
            body = record_of(text)[2:-2]
            whole = record_of(text)
            for wrong in ((sum(body) + sum(whole[:2])) % 256, (sum(body) - 1) % 256, (sum(body) + 170) % 256):
                if wrong != whole[-2]:
                    self.assertEqual(recovered([*whole[:-2], wrong, 170]), ([], 0))

    def test_withdrawals_of_nothing_are_records(self):
        self.assertEqual(recovered(octets_of([None, TEXTS[0]])), ([None, TEXTS[0]], 5 + 17))

    def test_random_formats(self):
        source = random.Random(173)
        for _ in range(60):
            texts = [format_text(random_format(source, source.randint(1, 5))) for _ in range(source.randint(0, 4))]
            texts.insert(source.randint(0, len(texts)), None)
            octets = octets_of(texts)
            self.assertEqual(recovered(octets), (texts, len(octets)))
            noise = [source.randint(0, 255) for _ in range(source.randint(0, 30))]
            self.assertEqual(recovered(octets + noise)[0][:len(texts)], texts)

    def test_arguments_stay(self):
        octets = octets_of([TEXTS[0], None]) + [0, 9]
        before = list(octets)
        recovered(octets)[0].clear()
        self.assertEqual(octets, before)
        record_of(TEXTS[0]).clear()
        self.assertEqual(record_of(TEXTS[0])[-1], 170)


class Devices(unittest.TestCase):
    def test_fields(self):
        octets = [1, 2, 3]
        device = Device(octets, 5)
        self.assertEqual((device.octets, device.power), ([1, 2, 3], 5))
        device.append(255)
        self.assertEqual((device.octets, device.power), ([1, 2, 3, 255], 4))
        self.assertEqual(octets, [1, 2, 3])

    def test_power(self):
        for start in ([], [7], [0] * 10):
            for power in range(5):
                device = Device(start, power)
                for many in range(power):
                    device.append(many)
                    self.assertEqual(device.power, power - many - 1)
                written = [*start, *range(power)]
                self.assertEqual(device.octets, written)
                for _ in range(3):
                    with self.assertRaises(PowerCut) as caught:
                        device.append(9)
                    self.assertEqual(caught.exception.written, len(written))
                    self.assertEqual((device.octets, device.power), (written, 0))


def journaled(power, promise="backward", scope="last"):
    return JournaledRegistry(Registry(promise, scope), Device([], power))


# Changes: an integer for a version that writes the integers up to it, None for a withdrawal.
CHANGES = [1, 3, None, 5, None, None, 2, 7]


def change(registry, what):
    return registry.withdraw() if what is None else registry.admit(span(0, what))


class Journaled(unittest.TestCase):
    def test_fields(self):
        registry, device = Registry("both", "all"), Device([], 3)
        found = JournaledRegistry(registry, device)
        self.assertIs(found.registry, registry)
        self.assertIs(found.device, device)
        self.assertIs(found.shut, False)

    def test_changes_and_their_records(self):
        found = journaled(10000)
        other = Registry("backward", "last")
        expected = []
        for what in CHANGES:
            self.assertEqual(change(found, what), change(other, what))
            expected += record_of(None if what is None else format_text(span(0, what)))
            self.assertEqual(found.device.octets, expected)
            self.assertEqual(found.device.power, 10000 - len(expected))
            self.assertEqual(texts_of(found.registry), texts_of(other))
        self.assertIs(found.shut, False)

    def test_what_raises_writes_nothing(self):
        found = journaled(10000, "both", "all")
        for _ in range(3):
            found.admit(span(0, 5))
        for form in (span(0, 6), span(1, 5), Format("a", {"a": ("any",)})):
            before = list(found.device.octets)
            with self.assertRaises(BrokenPromise) as caught:
                found.admit(form)
            self.assertEqual(caught.exception.version, 1)
            self.assertEqual((found.device.octets, found.registry.count(), found.shut), (before, 3, False))
        for number in range(4, 21):
            self.assertEqual(found.admit(span(0, 5)), number)
        before = list(found.device.octets)
        self.assertRaises(TooMany, found.admit, span(0, 5))
        self.assertEqual((found.device.octets, found.registry.count(), found.shut), (before, 20, False))
        self.assertIs(found.withdraw(), True)
        self.assertEqual(found.device.octets, before + record_of(None))

    def test_a_withdrawal_without_versions_writes_nothing(self):
        for power in (0, 3, 100):
            found = journaled(power)
            self.assertIs(found.withdraw(), False)
            self.assertEqual((found.device.octets, found.device.power, found.shut), ([], power, False))
        found = journaled(1000)
        found.admit(span(0, 1))
        self.assertEqual([found.withdraw(), found.withdraw(), found.withdraw()], [True, False, False])
        self.assertEqual(found.device.octets, record_of(format_text(span(0, 1))) + record_of(None))

    def test_what_raises_needs_no_power(self):
        found = journaled(len(record_of(format_text(span(0, 5)))), "both", "all")
        found.admit(span(0, 5))
        self.assertEqual(found.device.power, 0)
        self.assertRaises(BrokenPromise, found.admit, span(0, 6))
        self.assertIs(found.shut, False)
        self.assertRaises(PowerCut, found.admit, span(0, 5))
        self.assertIs(found.shut, True)

    def test_each_power(self):
        whole = journaled(10000)
        told = [change(whole, what) for what in CHANGES]
        ends = []
        trial = journaled(10000)
        for what in CHANGES:
            change(trial, what)
            ends.append(len(trial.device.octets))
        for power in range(ends[-1] + 3):
            with self.subTest(power=power):
                self.check_power(power, whole.device.octets, ends, told)

    def check_power(self, power, octets, ends, told):
        found = journaled(power)
        made = Registry("backward", "last")
        many = sum(end <= power for end in ends)
        for what, expected in list(zip(CHANGES, told))[:many]:
            self.assertEqual(change(found, what), expected)
            change(made, what)
        self.assertIs(found.shut, False)
        if many < len(CHANGES):
            with self.assertRaises(PowerCut) as caught:
                change(found, CHANGES[many])
            self.assertEqual(caught.exception.written, power)
            change(made, CHANGES[many])
            self.assertIs(found.shut, True)
            self.check_shut(found)
        self.assertEqual(found.device.octets, octets[:power])
        # The change stays made, though it was not told as made and is not recovered.
        self.assertEqual(texts_of(found.registry), texts_of(made))
        texts = [None if what is None else format_text(span(0, what)) for what in CHANGES]
        self.assertEqual(recovered(found.device.octets), (texts[:many], ([0] + ends)[many]))

    def check_shut(self, found):
        before = list(found.device.octets), texts_of(found.registry)
        for _ in range(2):
            self.assertRaises(ShutError, found.admit, span(0, 9))
            self.assertRaises(ShutError, found.admit, Format("a", {"a": ("text", 3)}))
            self.assertRaises(ShutError, found.withdraw)
            self.assertEqual((found.device.octets, texts_of(found.registry)), before)
            self.assertIs(found.shut, True)

    def test_shut_without_versions_and_with_twenty(self):
        found = journaled(0)
        self.assertRaises(PowerCut, found.admit, span(0, 1))
        found.registry.withdraw()
        self.assertRaises(ShutError, found.withdraw)
        for _ in range(20):
            found.registry.admit(span(0, 1))
        self.assertRaises(ShutError, found.admit, span(0, 1))
        # More power does not open it again.
        found.device.power = 1000
        self.assertRaises(ShutError, found.withdraw)
        self.assertEqual(found.device.octets, [])

    def test_the_number_counts_all_octets_of_the_device(self):
        found = JournaledRegistry(Registry("both", "all"), Device(octets_of(TEXTS), 4))
        with self.assertRaises(PowerCut) as caught:
            found.admit(span(0, 1))
        self.assertEqual(caught.exception.written, len(octets_of(TEXTS)) + 4)


def texts_of(registry):
    return [format_text(form) for form in registry.versions]


class Opened(unittest.TestCase):
    def test_of_nothing(self):
        for octets in ([], [0], [0, 1, 2], [5] * 20):
            found = opened("forward", "all", octets, 7)
            self.assertIs(type(found), JournaledRegistry)
            self.assertIs(type(found.registry), Registry)
            self.assertIs(type(found.device), Device)
            registry, device = found.registry, found.device
            self.assertEqual((registry.promise, registry.scope, registry.versions), ("forward", "all", []))
            self.assertEqual((device.octets, device.power, found.shut), ([], 7, False))

    def test_versions_and_withdrawals(self):
        octets = octets_of([TEXTS[0], TEXTS[0], None, TEXTS[0], None, None])
        for rest in ([], [0, 13, 1], [1, 2, 3, 4], [0] * 9):
            found = opened("both", "last", octets + rest, 100)
            self.assertEqual(texts_of(found.registry), [])
            self.assertEqual((found.device.octets, found.device.power), (octets, 100))
        octets = octets_of([TEXTS[0], None, TEXTS[1], TEXTS[0]])
        found = opened("backward", "last", octets + [0, 13], 0)
        self.assertEqual(texts_of(found.registry), [TEXTS[1], TEXTS[0]])
        self.assertEqual(found.device.octets, octets)
        self.assertRaises(PowerCut, found.withdraw)

    def test_it_goes_on(self):
        octets = octets_of([TEXTS[1]])
        found = opened("backward", "all", octets + [9, 9], 1000)
        self.assertRaises(BrokenPromise, found.admit, span(0, 4))
        self.assertEqual(found.admit(span(0, 6)), 2)
        self.assertEqual(found.device.octets, octets + record_of(format_text(span(0, 6))))
        self.assertEqual(found.registry.carry(5, 1, 2), ("value", 5))

    def test_twenty_versions(self):
        octets = octets_of([TEXTS[1]] * 20)
        found = opened("both", "all", octets, 1000)
        self.assertEqual(found.registry.count(), 20)
        self.assertRaises(TooMany, found.admit, span(0, 5))
        self.assertEqual(found.device.octets, octets)

    def test_arguments_stay(self):
        octets = octets_of(TEXTS[:1]) + [0, 1]
        before = list(octets)
        found = opened("backward", "last", octets, 1000)
        found.admit(Format("a", {"a": ("any",)}))
        self.assertEqual(octets, before)
        form = Format("r", {"r": record(need("a", "i"), may("b", "r")), "i": ("integer", 0, 5)})
        before = copy.deepcopy(form.definitions)
        other = journaled(5)
        self.assertRaises(PowerCut, other.admit, form)
        self.assertEqual(form.definitions, before)

    def test_several_openings_one_behind_the_other(self):
        source = random.Random(179)
        cuts = 0
        for _ in range(60):
            promise, scope = source.choice(["backward", "forward", "both"]), source.choice(["last", "all"])
            octets, told = [], []
            for _ in range(5):
                found = opened(promise, scope, octets, source.choice([0, 3, 20, 40, 60, 100, 150]))
                self.assertEqual(texts_of(found.registry), made_by(told))
                self.assertEqual(found.device.octets, octets_of(told))
                cuts += self.go_on(source, found, told)
                # What was told as made is there, in order, and nothing else.
                texts, taken = recovered(found.device.octets)
                self.assertEqual(texts, told)
                self.assertEqual(found.device.octets[:taken], octets_of(told))
                # The rest of a change that was cut off stays behind it, with or without more.
                octets = found.device.octets + source.choice([[], [], [0], [170, 170]])
        self.assertGreater(cuts, 80)

    def go_on(self, source, found, told):
        """Make changes until the power goes or no more are to be made; tell whether it went."""
        for _ in range(6):
            text = None if source.random() < 0.3 else format_text(span(0, source.randint(3, 5)))
            try:
                made = found.withdraw() if text is None else found.admit(parse_format(text))
            except BrokenPromise:
                continue
            except PowerCut:
                self.assertRaises(ShutError, found.withdraw)
                return True
            if made:
                told.append(text)
        return False


def made_by(told):
    """The texts of the versions after these changes."""
    texts = []
    for text in told:
        texts = texts[:-1] if text is None else [*texts, text]
    return texts


if __name__ == "__main__":
    unittest.main()
