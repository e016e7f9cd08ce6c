"""Sources of a value: what a writer writes and a reader reads as it."""

from formatfit.certificates import met_pairs
from formatfit.compatibility import require_reading
from formatfit.formats import case_of, field_of, is_always
from formatfit.least import least_key, least_rules, value_told
from formatfit.rules import choice_rule, fields_rule, list_rule, solved, value_rule
from formatfit.values import copy_of, sorted_fields
from formatfit.writing import is_kind, is_within, writes


def is_left_missing(field, record):
    """Tell whether a record has of a field of the reader what it becomes where the value that is read has it not."""
    if field[2] == "default":
        return field[0] in record and record[field[0]] == field[3]
    return field[2] == "optional" and field[0] not in record


class Sources:
    """The rules of the sources of values at pairs of names, the reader's ahead of the writer's.

    The reader can read the writer. The keys are numbers, and the parts of values wait in a list, because what is read
    can be some hundred deep.
    """

    def __init__(self, reader, writer):
        self.reader = reader
        self.writer = writer
        self.met = {pair: True for pair in met_pairs(reader, writer)}
        self.many = 0
        self.waiting = []

    def key_of(self, reading, writing, value):
        """Return a key of the sources of a value at a pair of names; its rules are made later."""
        key = ("source", self.many)
        self.many += 1
        self.waiting.append((key, reading, writing, value))
        return key

    def rules(self):
        """Return the rules of all keys that have been asked for, and of those that they need, but for least values."""
        made = {}
        while self.waiting:
            key, reading, writing, value = self.waiting.pop()
            # A pair that is not met comes only with a type without values.
            made[key] = self.rules_of_part(reading, writing, value) if (reading, writing) in self.met else []
        return made

    def rules_of_part(self, name, other, value):
        """Return the rules of the sources of a value at a pair that is met."""
        reading, writing = self.reader.of(name), self.writer.of(other)
        if reading[0] == "any":
            return [value_rule(copy_of(value))] if writes(self.writer, other, value) else []
        # The writer's definition is of the same kind, as all is read that it writes.
        if not is_kind(writing, value):
            return []
        if reading[0] == "record":
            return self.rules_of_record(reading, writing, value)
        if reading[0] == "choice":
            return self.rules_of_choice(reading, writing, value)
        if not is_within(writing, value):
            return []
        if reading[0] == "list":
            return [list_rule([self.key_of(reading[1], writing[1], part) for part in value])]
        return [value_rule(value)]

    def rules_of_record(self, reading, writing, record):
        """Return the rule of the least records that are read as a record."""
        keys = {field[0]: least_key(field[1]) for field in writing[1] if is_always(field)}
        for field in reading[1]:
            name, written = field[0], field_of(writing, field[0])
            # A record without a field is less than one with it, so it is left out wherever it can be.
            if (written is None or not is_always(written)) and is_left_missing(field, record):
                continue
            if written is None or name not in record:
                return []
            keys[name] = self.key_of(field[1], written[1], record[name])
        if any([field_of(reading, name) is None for name in record]):
            return []
        return [fields_rule(sorted_fields(keys))]

    def rules_of_choice(self, reading, writing, value):
        """Return the rules of the least choices with each tag that are read as a choice."""
        tag, inner = value
        rules = []
        known, written = case_of(reading, tag), case_of(writing, tag)
        if known is not None and written is not None:
            rules.append(choice_rule(tag, self.key_of(known, written, inner)))
        if reading[2] == value:
            unknown = [case for case in writing[1] if case_of(reading, case[0]) is None]
            rules.extend([choice_rule(other, least_key(least)) for other, least in unknown])
        return rules


def source_told(reader, writer, value):
    """Return ("value", the least source of a value), LARGE if that is too large, or NONE; the reader can read."""
    sources = Sources(reader, writer)
    key = sources.key_of(reader.root, writer.root, value)
    rules = least_rules(writer)
    rules.update(sources.rules())
    return solved(rules)[key]


def smallest_source(reader, writer, value):
    """Return the least value of a writer that a reader reads as a value, or None; raise CannotRead, TooLarge."""
    require_reading(reader, writer)
    return value_told(source_told(reader, writer, value))
