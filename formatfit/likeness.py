"""Whether two formats write the same values, and the least value that only one of them writes."""

from formatfit.beyond import all_rules_beyond, rules_beyond
from formatfit.errors import TooLarge
from formatfit.formats import case_of, field_of, is_always
from formatfit.least import least_key, record_rule
from formatfit.rules import LARGE, choice_rule, least_sizes, solved
from formatfit.values import least_among

EXCESS = "excess"


def _excess_key(other, writing):
    """Return the key of the values that a definition writes and one of another format does not write."""
    return (EXCESS, other, writing)


def _excess_of_record(other, writing):
    """Return the rules of the least records without what the other definition always writes, and of those with more."""
    rules = []
    for field in other[1]:
        written = field_of(writing, field[0])
        if is_always(field) and (written is None or not is_always(written)):
            rules.append(record_rule(writing, None, None))
    for field in writing[1]:
        known = field_of(other, field[0])
        key = least_key(field[1]) if known is None else _excess_key(known[1], field[1])
        rules.append(record_rule(writing, field[0], key))
    return rules


def _excess_of_choice(other, writing):
    """Return the rules of the least choices with each tag that the other definition does not write."""
    rules = []
    for tag, inner in writing[1]:
        known = case_of(other, tag)
        rules.append(choice_rule(tag, least_key(inner) if known is None else _excess_key(known, inner)))
    return rules


def _excess_of_pair(other, writing):
    """Return rules by which the least value is found that a definition writes and the other one does not."""
    if other[0] == writing[0] == "record":
        return _excess_of_record(other, writing)
    if other[0] == writing[0] == "choice":
        return _excess_of_choice(other, writing)
    return rules_beyond(other, writing, EXCESS)


def _excess_rules(other, writer):
    return all_rules_beyond(other, writer, EXCESS, _excess_of_pair)


def _writes_no_more(other, writer):
    """Tell whether another format writes all that a format writes."""
    return _excess_key(other.root, writer.root) not in least_sizes(_excess_rules(other, writer))


def _excess_told(other, writer):
    """Return what is told of the least value that a format writes and another one does not."""
    return solved(_excess_rules(other, writer))[_excess_key(other.root, writer.root)]


def is_same(first, second):
    """Tell whether two formats write the same values."""
    return _writes_no_more(first, second) and _writes_no_more(second, first)


def smallest_difference(first, second):
    """Return the least value that only one of two formats writes, or None; raise TooLarge."""
    told = [_excess_told(first, second), _excess_told(second, first)]
    least = least_among([value for _, value in told])
    # Where only one of both is too large, the other one is less.
    if least is None and LARGE in told:
        raise TooLarge()
    return least
