"""What a definition writes beyond another one: what that one does not read, or does not write.

Both are told by the same rules, but for the fields of records and the tags of choices. They go over pairs of names; the
key of such a set is a tuple (word, name of the one that it is beyond, name of the one that writes it).
"""

from formatfit.least import changed_lists, least_integer, least_key, least_rules, rules_of_definition
from formatfit.rules import list_rule, value_rule
from formatfit.values import LARGEST_INTEGER


def _integers_beyond(taking, least, greatest):
    found = least_integer(least, greatest, taking[1], taking[2])
    return [] if found is None else [value_rule(found)]


def _values_beyond(taking):
    """Return the rules of the least value of all that are beyond a definition other than any."""
    if taking[0] == "integer":
        return _integers_beyond(taking, -LARGEST_INTEGER, LARGEST_INTEGER)
    return [value_rule(0)]


def _lists_beyond(taking, writing, word):
    """Return the rules of the least lists of a wrong length on either side, and of a right one with a wrong part."""
    _, inner, shortest, longest = writing
    rules = changed_lists(writing, (word, taking[1], inner))
    if shortest < taking[2]:
        rules.append(list_rule([least_key(inner)] * shortest))
    too_long = max(shortest, taking[3] + 1)
    if too_long <= longest:
        rules.append(list_rule([least_key(inner)] * too_long))
    return rules


def rules_beyond(taking, writing, word):
    """Return the rules of the least value that a definition writes beyond another one; not both are records or choices.

    The word is that of the keys of pairs.
    """
    if taking[0] == "any":
        return []
    if writing[0] == "any":
        return _values_beyond(taking)
    if taking[0] != writing[0]:
        return rules_of_definition(writing)
    if taking[0] == "integer":
        return _integers_beyond(taking, writing[1], writing[2])
    if taking[0] == "text":
        return [value_rule("a" * (taking[1] + 1))] if taking[1] < writing[1] else []
    return _lists_beyond(taking, writing, word)


def all_rules_beyond(form, writer, word, rules_of_pair):
    """Return the rules of all pairs of a format and a writer that are needed for the roots, and the least rules.

    The function tells the rules of two definitions; the word is that of its keys of pairs.
    """
    rules = least_rules(writer)
    waiting = [(word, form.root, writer.root)]
    while waiting:
        key = waiting.pop()
        if key not in rules:
            rules[key] = rules_of_pair(form.of(key[1]), writer.of(key[2]))
            waiting.extend([part for rule in rules[key] for part in rule[2] if part[0] == word])
    return rules
