"""Whether a reader can read all that a writer writes, and the least value that it cannot."""

from formatfit.formats import case_of, field_of, is_always
from formatfit.least import least_integer, least_key, least_rules, record_rule, rules_of_definition, value_told
from formatfit.rules import choice_rule, least_sizes, list_rule, solved, value_rule
from formatfit.values import LARGEST_INTEGER

FAILURE = "failure"


def _failure_key(reading, writing):
    """Return the key of the values that a definition of the writer writes and one of the reader does not read."""
    return (FAILURE, reading, writing)


def _failures_of_integer(reading, least, greatest):
    failing = least_integer(least, greatest, reading[1], reading[2])
    return [] if failing is None else [value_rule(failing)]


def _failures_of_any(reading):
    """Return the rules of the least value of all that a definition other than any does not read."""
    if reading[0] == "integer":
        return _failures_of_integer(reading, -LARGEST_INTEGER, LARGEST_INTEGER)
    return [value_rule(0)]


def _failures_of_list(reading, writing):
    """Return the rules of the least lists of a wrong length on either side, and of a right one with a wrong part."""
    _, inner, shortest, longest = writing
    rules = []
    if shortest < reading[2]:
        rules.append(list_rule([least_key(inner)] * shortest))
    too_long = max(shortest, reading[3] + 1)
    if too_long <= longest:
        rules.append(list_rule([least_key(inner)] * too_long))
    if longest >= 1:
        others = [least_key(inner)] * (max(shortest, 1) - 1)
        rules.append(list_rule([*others, _failure_key(reading[1], inner)]))
    return rules


def _failures_of_record(reading, writing):
    """Return the rules of the least records in which a field is missing, and of those with a wrong part."""
    rules = []
    for field in reading[1]:
        written = field_of(writing, field[0])
        if field[2] == "required" and (written is None or not is_always(written)):
            rules.append(record_rule(writing, None, None))
        if written is not None:
            rules.append(record_rule(writing, field[0], _failure_key(field[1], written[1])))
    return rules


def _failures_of_choice(reading, writing):
    """Return the rules of the least choices with each tag that are not read."""
    rules = []
    for tag, inner in writing[1]:
        known = case_of(reading, tag)
        if known is not None:
            rules.append(choice_rule(tag, _failure_key(known, inner)))
        elif reading[2] is None:
            rules.append(choice_rule(tag, least_key(inner)))
    return rules


def _failures_of_pair(reading, writing):
    """Return rules by which the least value is found that the one definition does not read of the other one."""
    if reading[0] == "any":
        return []
    if writing[0] == "any":
        return _failures_of_any(reading)
    if reading[0] != writing[0]:
        return rules_of_definition(writing)
    if reading[0] == "integer":
        return _failures_of_integer(reading, writing[1], writing[2])
    if reading[0] == "text":
        return [value_rule("a" * (reading[1] + 1))] if reading[1] < writing[1] else []
    if reading[0] == "list":
        return _failures_of_list(reading, writing)
    if reading[0] == "record":
        return _failures_of_record(reading, writing)
    return _failures_of_choice(reading, writing)


def _failure_rules(reader, writer):
    """Return the rules of the least failures of all pairs that are needed, and of the writer's least values."""
    rules = least_rules(writer)
    waiting = [_failure_key(reader.root, writer.root)]
    while waiting:
        key = waiting.pop()
        if key not in rules:
            rules[key] = _failures_of_pair(reader.of(key[1]), writer.of(key[2]))
            waiting.extend([part for rule in rules[key] for part in rule[2] if part[0] == FAILURE])
    return rules


def can_read(reader, writer):
    """Tell whether a reader reads every value that a writer writes."""
    return _failure_key(reader.root, writer.root) not in least_sizes(_failure_rules(reader, writer))


def smallest_failure(reader, writer):
    """Return the least value that a writer writes and a reader does not read, or None; raise TooLarge."""
    told = solved(_failure_rules(reader, writer))
    return value_told(told[_failure_key(reader.root, writer.root)])
