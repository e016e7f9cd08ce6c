"""What a reader loses of a writer: values that it takes for one, and fields and tags that it does not know."""

from formatfit.certificates import met_pairs
from formatfit.compatibility import require_reading
from formatfit.formats import case_of, field_of, is_always
from formatfit.least import changed_lists, least_key, least_tag, names_with_values, record_rule, second_key
from formatfit.least import second_rules, value_told
from formatfit.reading import read_by
from formatfit.rules import choice_rule, least_sizes, solved
from formatfit.sources import Sources, source_told


def _later_key(reading, writing):
    """Return the key of the values of a pair of names ahead of which there is another one that is read as the same.

    Of a confusion with the least second value this is such a value, and the first one is the least source of what it
    is read as.
    """
    return ("later", reading, writing)


def _defaults_met(reading, writing):
    """Return tuples of a field, its types and its default, for each one that is filled in where the writer omits it."""
    rows = []
    for field in reading[1]:
        written = field_of(writing, field[0])
        if field[2] == "default" and written is not None and not is_always(written):
            rows.append((field[0], field[1], written[1], field[3]))
    return rows


def _fallback_met(reading, writing):
    """Return the same of the fallback, with its tag, if the writer has a case for it; a list of at most one tuple."""
    if reading[2] is None:
        return []
    tag, value = reading[2]
    written = case_of(writing, tag)
    return [] if written is None else [(tag, case_of(reading, tag), written, value)]


class Losses:
    """The rules of the values of a writer that a reader, which can read it, reads as an earlier one."""

    def __init__(self, reader, writer):
        self.reader = reader
        self.writer = writer
        self.pairs = met_pairs(reader, writer)
        self.source_keys = {}
        self.least = {}

    def both(self, pair):
        """Return both definitions of a pair of names."""
        return self.reader.of(pair[0]), self.writer.of(pair[1])

    def source_rules(self):
        """Return the rules of the sources of defaults and fallbacks, and keep their keys."""
        sources = Sources(self.reader, self.writer)
        for pair in self.pairs:
            reading, writing = self.both(pair)
            rows = []
            if reading[0] == "record":
                rows = _defaults_met(reading, writing)
            elif reading[0] == "choice":
                rows = _fallback_met(reading, writing)
            for name, known, written, value in rows:
                self.source_keys[(pair, name)] = sources.key_of(known, written, value)
        return sources.rules()

    def rules(self):
        """Return all rules."""
        rules = second_rules(self.writer)
        rules.update(self.source_rules())
        self.least = solved(rules)
        for pair in self.pairs:
            rules[_later_key(pair[0], pair[1])] = self.rules_of_pair(pair)
        return rules

    def rules_of_pair(self, pair):
        """Return the rules of the later values of a pair that is met."""
        reading, writing = self.both(pair)
        if reading[0] == "list":
            return changed_lists(writing, _later_key(reading[1], writing[1]))
        if reading[0] == "record":
            return self.rules_of_record(pair, reading, writing)
        if reading[0] == "choice":
            return self.rules_of_choice(pair, reading, writing)
        # Whatever is read by any, integers and texts are read as they are.
        return []

    def rules_of_record(self, pair, reading, writing):
        """Return the rules of the later records, by the field that makes them such."""
        rules = []
        for field in writing[1]:
            known = field_of(reading, field[0])
            keys = []
            if known is not None:
                keys.append(_later_key(known[1], field[1]))
                if (pair, field[0]) in self.source_keys:
                    # Without the field, which is less, it is read as the same.
                    keys.append(self.source_keys[(pair, field[0])])
            else:
                keys.append(second_key(field[1]) if is_always(field) else least_key(field[1]))
            rules.extend([record_rule(writing, field[0], key) for key in keys])
        return rules

    def rules_of_choice(self, pair, reading, writing):
        """Return the rules of the later choices, by their tags."""
        rules = []
        # All choices with these tags and values are read as the fallback; only the least one of them is no later one.
        taken = []
        for tag, inner in writing[1]:
            known = case_of(reading, tag)
            if known is None:
                taken.append((tag, least_key(inner)))
                continue
            rules.append(choice_rule(tag, _later_key(known, inner)))
            if (pair, tag) in self.source_keys:
                taken.append((tag, self.source_keys[(pair, tag)]))
        first = least_tag(taken, self.least)
        for tag, key in taken:
            if tag != first:
                rules.append(choice_rule(tag, key))
            elif case_of(reading, tag) is None:
                rules.append(choice_rule(tag, second_key(case_of(writing, tag))))
        return rules


def smallest_confusion(reader, writer):
    """Return the two values of the least confusion, the lesser one first, or None; raise CannotRead, TooLarge."""
    require_reading(reader, writer)
    told = solved(Losses(reader, writer).rules())
    key = _later_key(reader.root, writer.root)
    later = value_told(told[key]) if key in told else None
    if later is None:
        return None
    made = read_by(reader, reader.root, later)[1]
    return (source_told(reader, writer, made)[1], later)


def is_lossless(reader, writer):
    """Tell whether a reader reads any two different values of a writer as different ones; raise CannotRead."""
    require_reading(reader, writer)
    return _later_key(reader.root, writer.root) not in least_sizes(Losses(reader, writer).rules())


def _unknown_parts(reader, writer, kind):
    """Return the tuples of a pair that is met, of definitions of a kind, and a field or tag that the reader has not."""
    require_reading(reader, writer)
    having = names_with_values(writer)
    found = []
    for name, other in met_pairs(reader, writer):
        reading, writing = reader.of(name), writer.of(other)
        if reading[0] == kind and writing[0] == kind:
            known = [part[0] for part in reading[1]]
            found.extend([(name, other, part[0]) for part in writing[1] if part[1] in having and part[0] not in known])
    return found


def dropped_fields(reader, writer):
    """Return the fields that are dropped: tuples (name of the reader, name of the writer, field), ascending."""
    return _unknown_parts(reader, writer, "record")


def unknown_tags(reader, writer):
    """Return the tags that are unknown: tuples (name of the reader, name of the writer, tag), ascending."""
    return _unknown_parts(reader, writer, "choice")
