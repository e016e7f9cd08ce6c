"""Second answers for the tests, by the words of the document alone: written values, reading, random formats.

Nothing here is fast: values are listed by their size, all of a size before any of the next one.
"""

import functools
import itertools
import random

from formatfit.formats import Format
from formatfit.values import compare_values

INTEGERS = list(range(-7, 8)) + [1000000, -1000000]


def in_order(values):
    """The values in the order of [5]."""
    return sorted(values, key=functools.cmp_to_key(compare_values))


def shares(size, many):
    """All ways to give so many parts sizes of at least 1 with this sum."""
    if many == 0:
        return [()] if size == 0 else []
    return [(first, *rest) for first in range(1, size - many + 2) for rest in shares(size - first, many - 1)]


class Listing:
    """The values that the definitions of a format write, by size; texts of a and b alone, and not all of any."""

    def __init__(self, form):
        self.form = form
        self.known = {}

    def of_size(self, name, size):
        """All values of exactly this size that a definition writes."""
        key = (name, size)
        if key not in self.known:
            self.known[key] = list(self.made(self.form.definitions[name], size))
        return self.known[key]

    def rows(self, names, size):
        """All rows of values by these definitions whose sizes have this sum."""
        for sizes in shares(size, len(names)):
            yield from itertools.product(*[self.of_size(name, part) for name, part in zip(names, sizes)])

    def made(self, definition, size):
        if size < 1:
            return
        kind = definition[0]
        if kind == "any":
            yield from self.any_of_size(size)
        elif kind == "integer":
            if size == 1:
                yield from range(definition[1], definition[2] + 1)
        elif kind == "text":
            if size - 1 <= definition[1]:
                yield from ("".join(letters) for letters in itertools.product("ab", repeat=size - 1))
        elif kind == "list":
            for many in range(definition[2], definition[3] + 1):
                yield from (list(row) for row in self.rows([definition[1]] * many, size - 1))
        elif kind == "record":
            yield from self.records(definition[1], size)
        else:
            for tag, inner in definition[1]:
                yield from ((tag, value) for value in self.of_size(inner, size - 1))

    def records(self, fields, size):
        optional = [field[0] for field in fields if field[2] == "optional"]
        for many in range(len(optional) + 1):
            for left in itertools.combinations(optional, many):
                chosen = [field for field in fields if field[0] not in left]
                for row in self.rows([field[1] for field in chosen], size - 1):
                    yield {field[0]: value for field, value in zip(chosen, row)}

    def any_of_size(self, size):
        if size == 1:
            yield from INTEGERS + ["", [], {}]
        elif size == 2:
            yield from ["a", "b", [0], [[]], {"a": 0}, {"b": ""}, ("a", 0), ("t", [])]
        elif size == 3:
            yield from ["aa", [0, 0], [[0]], {"a": 0, "b": 1}, ("a", "a")]

    def up_to(self, name, size):
        """All values of at most this size, in order."""
        return [value for part in range(1, size + 1) for value in in_order(self.of_size(name, part))]


class Failed(Exception):
    """What a value causes that is not read, with the path."""


def plain_read(form, name, value, path=()):
    """Read a value by the words of [18], [19] and [20]."""
    definition = form.definitions[name]
    kind = definition[0]
    if kind == "any":
        return value
    wanted = {"integer": int, "text": str, "list": list, "record": dict, "choice": tuple}[kind]
    if not isinstance(value, wanted):
        raise Failed("wrong kind", path)
    if kind == "integer":
        if not definition[1] <= value <= definition[2]:
            raise Failed("out of range", path)
        return value
    if kind == "text":
        if len(value) > definition[1]:
            raise Failed("too long", path)
        return value
    if kind == "list":
        if not definition[2] <= len(value) <= definition[3]:
            raise Failed("wrong length", path)
        return [plain_read(form, definition[1], part, path + (at,)) for at, part in enumerate(value)]
    if kind == "record":
        made = {}
        for field in definition[1]:
            if field[0] in value:
                made[field[0]] = plain_read(form, field[1], value[field[0]], path + (field[0],))
            elif field[2] == "required":
                raise Failed("missing field", path + (field[0],))
            elif field[2] == "default":
                made[field[0]] = field[3]
        return made
    for tag, inner in definition[1]:
        if tag == value[0]:
            return (tag, plain_read(form, inner, value[1], path + ("$" + tag,)))
    if definition[2] is None:
        raise Failed("unknown tag", path)
    return definition[2]


def plain_told(form, name, value):
    """What read_by has to return."""
    try:
        return ("value", plain_read(form, name, value))
    except Failed as failed:
        reason, path = failed.args
        return ("failure", reason, list(path))


def random_definition(source, names, kinds):
    """A small definition without defaults and fallbacks."""
    kind = source.choice(kinds)
    if kind == "any":
        return ("any",)
    if kind == "integer":
        return ("integer", *sorted((source.randint(-2, 2), source.randint(-2, 2))))
    if kind == "text":
        return ("text", source.randint(0, 2))
    if kind == "list":
        return ("list", source.choice(names), *sorted((source.randint(0, 2), source.randint(0, 2))))
    chosen = sorted(source.sample(["a", "b", "c"], source.randint(0 if kind == "record" else 1, 3)))
    if kind == "record":
        presences = ["required", "optional", "default"]
        return ("record", tuple((name, source.choice(names), source.choice(presences)) for name in chosen))
    return ("choice", tuple((tag, source.choice(names)) for tag in chosen), source.choice([None, True]))


KINDS = ["any", "integer", "integer", "text", "list", "list", "record", "record", "record", "choice", "choice"]


def with_values(source, definition, listings):
    """The definition with defaults and a fallback of the values that are listed; required and None without."""
    if definition[0] == "record":
        fields = []
        for field in definition[1]:
            if field[2] == "default":
                values = listings.up_to(field[1], 3)
                field = (*field, source.choice(values)) if values else (field[0], field[1], "required")
            fields.append(field)
        return ("record", tuple(fields))
    if definition[0] == "choice":
        choices = [(tag, value) for tag, inner in definition[1] if definition[2] for value in listings.up_to(inner, 3)]
        return ("choice", definition[1], source.choice(choices) if choices else None)
    return definition


def random_format(source, many, kinds=None):
    """A small format of so many definitions."""
    names = ["d" + str(at) for at in range(many)]
    raw = {name: random_definition(source, names, kinds or KINDS) for name in names}
    listings = Listing(Format("d0", raw))
    return Format("d0", {name: with_values(source, raw[name], listings) for name in names})


def changed_format(source, form):
    """A format that differs from another one in one definition or two."""
    definitions = dict(form.definitions)
    raw = dict(definitions)
    for name in source.sample(sorted(raw), min(len(raw), source.randint(1, 2))):
        raw[name] = random_definition(source, sorted(raw), KINDS)
    listings = Listing(Format(form.root, raw))
    for name in raw:
        definitions[name] = with_values(source, stripped(raw[name]), listings)
    return Format(form.root, definitions)


def stripped(definition):
    """A definition whose defaults and fallback are still to be chosen."""
    if definition[0] == "record":
        return ("record", tuple(field[:3] for field in definition[1]))
    if definition[0] == "choice":
        return ("choice", definition[1], definition[2] is not None)
    return definition


def sized(size):
    """A format whose root a writes a value of this size, 277 to 309, as the least one."""
    tens, ones = divmod(size - 277, 9)
    return Format("a", {
        "a": ("record", (("a", "l3", "required"), ("b", "l3", "required"), ("c", "l3", "required"),
            ("d", "d", "required"))),
        "d": ("record", (("a", "p", "required"), ("b", "q", "required"))),
        "i": ("integer", 0, 0), "l2": ("list", "i", 9, 9), "l3": ("list", "l2", 9, 9),
        "p": ("list", "i", ones, 9), "p0": ("list", "i", 8, 9), "q": ("list", "p0", tens, 9),
    })


def record(*fields):
    return ("record", fields)


def choice(*cases, fallback=None):
    return ("choice", cases, fallback)


def need(name, inner):
    return (name, inner, "required")


def may(name, inner):
    return (name, inner, "optional")


CIRCLE = ["n%02d" % at for at in range(12)]


def in_circles(presences, shortest):
    """A format of twelve definitions: records with such fields, choices, and lists from this length to 9, in circles."""
    rows = {}
    for at, name in enumerate(CIRCLE):
        others = [CIRCLE[(at + step) % 12] for step in (1, 2, 3, 5)]
        rows[name] = [
            ("record", tuple(zip("abcd", others, presences))), ("choice", tuple(zip("abcd", others)), None),
            ("list", others[0], shortest, 9),
        ][at % 3]
    return Format("n00", rows)


def looser_definition(source, definition, types):
    """A definition that reads what another one writes, if its types do; defaults and fallbacks are True."""
    kind = definition[0]
    if kind == "any" or source.random() < 0.06:
        return ("any",)
    if kind == "integer":
        return (kind, definition[1] - source.randint(0, 1), definition[2] + source.randint(0, 1))
    if kind == "text":
        return (kind, definition[1] + source.randint(0, 1))
    if kind == "list":
        shortest = max(0, definition[2] - source.randint(0, 1))
        return (kind, source.choice(types[definition[1]]), shortest, definition[3] + source.randint(0, 1))
    some = [part for part in definition[1] if source.random() < 0.75] or [source.choice([*definition[1], None])]
    more = {part[0]: part for part in some if part is not None}
    kept = sorted(more)
    if source.random() < 0.2 or (kind == "choice" and not more):
        more["d"] = ("d", source.choice(sorted(types)), "optional")
    if kind == "choice":
        cases = tuple((tag, source.choice(types[more[tag][1]])) for tag in sorted(more))
        return (kind, cases, True if len(kept) < len(definition[1]) else source.choice([None, True]))
    fields = []
    for name in sorted(more):
        presences = ["optional", "default", "default"] + ["required"] * (more[name][2] != "optional")
        fields.append((name, source.choice(types[more[name][1]]), source.choice(presences)))
    return (kind, tuple(fields))


def looser_format(source, writer):
    """A format that reads what a writer writes in most cases, and may lose much of it: two definitions for each one."""
    types = {name: [name + "x", name + "y"] for name in writer.names()}
    raw = {}
    for name in writer.names():
        for own in types[name]:
            raw[own] = looser_definition(source, writer.definitions[name], types)
    root = writer.root + "x"
    listings = Listing(Format(root, raw))
    return Format(root, {name: with_values(source, raw[name], listings) for name in raw})


def all_read(reader, writer, size, most=3000):
    """What the reader makes of the writer's values: a list of tuples (value, what it is read as), in order.

    The values are those of at most this size, or of a lesser one if there are too many; that size is returned, too.
    """
    listing = Listing(writer)
    values = []
    for part in range(1, size + 1):
        more = in_order(listing.of_size(writer.root, part))
        if len(values) + len(more) > most:
            return [(value, plain_read(reader, reader.root, value)) for value in values], part - 1
        values.extend(more)
    return [(value, plain_read(reader, reader.root, value)) for value in values], size


def lossy_pairs(seed, many):
    """Random readers with writers that they can read in most cases, and of which they may lose much."""
    source = random.Random(seed)
    while many:
        kinds = KINDS[1:] + ["record", "choice"] if source.random() < 0.8 else KINDS
        writer = random_format(source, source.randint(2, 5), kinds)
        if writer.of("d0")[0] in ("list", "record", "choice") and Listing(writer).up_to("d0", 5):
            many -= 1
            yield looser_format(source, writer), writer


def in_others(root, definitions):
    """A definition stood in others: tuples (formats by the definition called root, how a value stands in them)."""
    rows = [
        (("list", "in", 0, 9), lambda value: [value]), (("list", "in", 1, 1), lambda value: [value]),
        (record(may("f", "in")), lambda value: {"f": value}), (record(need("f", "in")), lambda value: {"f": value}),
        (choice(("t", "in")), lambda value: ("t", value)),
        (record(may("f", "out1")), lambda value: {"f": [("t", value)]}),
    ]
    more = {"out1": ("list", "out2", 1, 2), "out2": choice(("t", "in"))}
    for outer, wrap in rows:
        yield Format("root", {**definitions, **more, "in": root, "root": outer}), wrap
