"""Whether a reader can read all that a writer writes, and the least value that it cannot."""

from formatfit.beyond import all_rules_beyond, rules_beyond
from formatfit.errors import CannotRead
from formatfit.formats import case_of, field_of, is_always
from formatfit.least import least_key, record_rule, value_told
from formatfit.rules import choice_rule, least_sizes, solved

FAILURE = "failure"


def _failure_key(reading, writing):
    """Return the key of the values that a definition of the writer writes and one of the reader does not read."""
    return (FAILURE, reading, writing)


def _failures_of_record(reading, writing):
    """Return the rules of the least records in which a field is missing, and of those with a wrong part."""
    rules = []
    for field in reading[1]:
        written = field_of(writing, field[0])
        if field[2] == "required" and (written is None or not is_always(written)):
            rules.append(record_rule(writing, None, None))
        if written is not None:
            rules.append(record_rule(writing, field[0], _failure_key(field[1], written[1])))
    return rules


def _failures_of_choice(reading, writing):
    """Return the rules of the least choices with each tag that are not read."""
    rules = []
    for tag, inner in writing[1]:
        known = case_of(reading, tag)
        if known is not None:
            rules.append(choice_rule(tag, _failure_key(known, inner)))
        elif reading[2] is None:
            rules.append(choice_rule(tag, least_key(inner)))
    return rules


def _failures_of_pair(reading, writing):
    """Return rules by which the least value is found that the one definition does not read of the other one."""
    if reading[0] == writing[0] == "record":
        return _failures_of_record(reading, writing)
    if reading[0] == writing[0] == "choice":
        return _failures_of_choice(reading, writing)
    return rules_beyond(reading, writing, FAILURE)


def _failure_rules(reader, writer):
    """Return the rules of the least failures of all pairs that are needed, and of the writer's least values."""
    return all_rules_beyond(reader, writer, FAILURE, _failures_of_pair)


def can_read(reader, writer):
    """Tell whether a reader reads every value that a writer writes."""
    return _failure_key(reader.root, writer.root) not in least_sizes(_failure_rules(reader, writer))


def require_reading(reader, writer):
    """Raise CannotRead if a reader does not read every value that a writer writes."""
    if not can_read(reader, writer):
        raise CannotRead()


def smallest_failure(reader, writer):
    """Return the least value that a writer writes and a reader does not read, or None; raise TooLarge."""
    told = solved(_failure_rules(reader, writer))
    return value_told(told[_failure_key(reader.root, writer.root)])
