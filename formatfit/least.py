"""The least and the second values of definitions, and which definitions have values at all."""

from formatfit.errors import TooLarge
from formatfit.formats import is_always
from formatfit.rules import choice_rule, fields_rule, least_sizes, list_rule, solved, value_rule
from formatfit.values import least_among


def least_key(name):
    """Return the key of the values that a definition writes."""
    return ("least", name)


def second_key(name):
    """Return the key of the values that a definition writes, but for its least one."""
    return ("second", name)


def least_integer(least, greatest, low, high):
    """Return the least integer from least to greatest that is not from low to high, or None."""
    found = []
    for start, end in ((least, min(greatest, low - 1)), (max(least, high + 1), greatest)):
        if start <= end:
            found.append(min(max(start, 0), end))
    return least_among(found)


def record_rule(definition, changed, key):
    """Return the rule of the least records of a definition; the field called changed, if any, has the key instead."""
    named = []
    for field in definition[1]:
        if field[0] == changed:
            named.append((field[0], key))
        elif is_always(field):
            named.append((field[0], least_key(field[1])))
    return fields_rule(named)


def changed_lists(definition, key):
    """Return the rules of the least lists of a definition that have an element of this key, if they can have any."""
    _, inner, shortest, longest = definition
    if longest == 0:
        return []
    # The last element: a list is the greater the further to the front it has a greater one.
    return [list_rule([least_key(inner)] * (max(shortest, 1) - 1) + [key])]


def rules_of_definition(definition):
    """Return rules by which the least value of a definition is found."""
    kind = definition[0]
    if kind == "any":
        return [value_rule(0)]
    if kind == "integer":
        return [value_rule(min(max(definition[1], 0), definition[2]))]
    if kind == "text":
        return [value_rule("")]
    if kind == "list":
        return [list_rule([least_key(definition[1])] * definition[2])]
    if kind == "record":
        return [record_rule(definition, None, None)]
    return [choice_rule(tag, least_key(inner)) for tag, inner in definition[1]]


def least_rules(form):
    """Return the rules of the least values of all definitions."""
    return {least_key(name): rules_of_definition(form.of(name)) for name in form.names()}


def _second_of_list(definition):
    _, inner, shortest, longest = definition
    rules = changed_lists(definition, second_key(inner))
    if shortest < longest:
        rules.append(list_rule([least_key(inner)] * (shortest + 1)))
    return rules


def _second_of_record(definition):
    rules = []
    for field in definition[1]:
        key = second_key(field[1]) if is_always(field) else least_key(field[1])
        rules.append(record_rule(definition, field[0], key))
    return rules


def least_tag(tagged_keys, least):
    """Return the tag of the least choice, or of any one if they are all too large, or None if there is none.

    The tags come with the keys of their values, the least of which are told.
    """
    values = []
    tags = []
    for tag, key in tagged_keys:
        kind, value = least[key]
        if kind == "value":
            values.append((tag, value))
        elif kind == "large":
            tags.append(tag)
    if values:
        return least_among(values)[0]
    return tags[0] if tags else None


def _second_of_choice(definition, least):
    rules = []
    first = least_tag([(tag, least_key(inner)) for tag, inner in definition[1]], least)
    for tag, inner in definition[1]:
        rules.append(choice_rule(tag, second_key(inner) if tag == first else least_key(inner)))
    return rules


def _second_of_definition(definition, least):
    """Return rules by which the second value of a definition is found; least tells the least values."""
    kind = definition[0]
    if kind == "any":
        return [value_rule(1)]
    if kind == "integer":
        first = min(max(definition[1], 0), definition[2])
        second = least_integer(definition[1], definition[2], first, first)
        return [] if second is None else [value_rule(second)]
    if kind == "text":
        return [value_rule("a")] if definition[1] >= 1 else []
    if kind == "list":
        return _second_of_list(definition)
    if kind == "record":
        return _second_of_record(definition)
    return _second_of_choice(definition, least)


def _all_least(form):
    """Return what is told of the least value of each definition, by its name."""
    told = solved(least_rules(form))
    return {name: told[least_key(name)] for name in form.names()}


def second_rules(form):
    """Return the rules of the second values of all definitions, and of the least ones."""
    rules = least_rules(form)
    least = solved(rules)
    for name in form.names():
        rules[second_key(name)] = _second_of_definition(form.of(name), least)
    return rules


def _all_second(form):
    """Return what is told of the second value of each definition, by its name."""
    told = solved(second_rules(form))
    return {name: told[second_key(name)] for name in form.names()}


def names_with_values(form):
    """Return a dict with the names of the definitions that have values."""
    sizes = least_sizes(least_rules(form))
    return {name: True for name in form.names() if least_key(name) in sizes}


def has_values(form, name):
    """Tell whether a definition writes any value."""
    return name in names_with_values(form)


def names_without_values(form):
    """Return the names of the definitions that write nothing, ascending."""
    having = names_with_values(form)
    return [name for name in form.names() if name not in having]


def least_of_name(form, name):
    """Return ("value", the least value of a definition), ("large", None), or ("none", None)."""
    return _all_least(form)[name]


def second_of_name(form, name):
    """Return ("value", the second value of a definition), ("large", None), or ("none", None)."""
    return _all_second(form)[name]


def value_told(told):
    """Return the value that is told, or None if there is none; raise TooLarge if it is too large."""
    if told[0] == "large":
        raise TooLarge()
    return told[1]


def least_value(form):
    """Return the least value of a format, or None; raise TooLarge if it is too large."""
    return value_told(least_of_name(form, form.root))


def second_value(form):
    """Return the second value of a format, or None; raise TooLarge if it is too large."""
    return value_told(second_of_name(form, form.root))


def _values_alone(told):
    return {name: told[name][1] for name in told}


def least_values(form):
    """Return a dict from each name to its least value, or to None if there is none that is not too large."""
    return _values_alone(_all_least(form))


def second_values(form):
    """Return a dict from each name to its second value, or to None if there is none that is not too large."""
    return _values_alone(_all_second(form))
