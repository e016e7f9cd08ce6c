"""Formats: what they consist of, and whether they have the form that they must have."""

from formatfit.values import is_ascending, is_name

MOST_DEFINITIONS = 12
LARGEST_BOUND = 999999
GREATEST_LENGTH = 9
MOST_FIELDS_DEFINED = 4
MOST_CASES = 4


class Format:
    """A root and definitions by their names."""

    def __init__(self, root, definitions):
        self.root = root
        self.definitions = dict(definitions)

    def of(self, name):
        """Return the definition of a name."""
        return self.definitions[name]

    def names(self):
        """Return the names of the definitions, ascending."""
        return sorted(self.definitions)


def types_of(definition):
    """Return the types that a definition names, in order; one that it names twice stands there twice."""
    if definition[0] == "list":
        return [definition[1]]
    if definition[0] in ("record", "choice"):
        return [named[1] for named in definition[1]]
    return []


def renamed(definition, names):
    """Return a definition with other types: each one is replaced by what a dict has for it."""
    if definition[0] == "list":
        return ("list", names[definition[1]], definition[2], definition[3])
    if definition[0] == "record":
        return ("record", tuple([(field[0], names[field[1]], *field[2:]) for field in definition[1]]))
    if definition[0] == "choice":
        return ("choice", tuple([(tag, names[inner]) for tag, inner in definition[1]]), definition[2])
    return definition


def field_of(definition, name):
    """Return the field of this name of a record definition, or None."""
    if definition[0] == "record":
        for field in definition[1]:
            if field[0] == name:
                return field
    return None


def case_of(definition, tag):
    """Return the type of the case with this tag of a choice definition, or None."""
    if definition[0] == "choice":
        for case in definition[1]:
            if case[0] == tag:
                return case[1]
    return None


def is_always(field):
    """Tell whether a field is always written: it is required or has a default."""
    return field[2] != "optional"


def always_types(definition):
    """Return the types of the fields of a record definition that are always written, in order."""
    if definition[0] != "record":
        return []
    return [field[1] for field in definition[1] if is_always(field)]


def is_shaped(form):
    """Tell whether a format has the right form, whatever the values of its defaults and fallbacks are."""
    if not 1 <= len(form.definitions) <= MOST_DEFINITIONS or not _is_defined(form, form.root):
        return False
    return all([is_name(name) and _is_definition(form, form.of(name)) for name in form.definitions])


def _is_defined(form, name):
    return is_name(name) and name in form.definitions


def _is_number(number, least, greatest):
    return isinstance(number, int) and not isinstance(number, bool) and least <= number <= greatest


def _is_definition(form, definition):
    """Tell whether a definition of a format has the right form."""
    if not isinstance(definition, tuple) or len(definition) == 0:
        return False
    kind, told = definition[0], definition[1:]
    if kind == "any":
        return len(told) == 0
    if kind == "integer":
        return len(told) == 2 and _is_span(told, -LARGEST_BOUND, LARGEST_BOUND)
    if kind == "text":
        return len(told) == 1 and _is_number(told[0], 0, GREATEST_LENGTH)
    if kind == "list":
        return len(told) == 3 and _is_defined(form, told[0]) and _is_span(told[1:], 0, GREATEST_LENGTH)
    if kind == "record":
        return len(told) == 1 and _are_fields(form, told[0])
    return kind == "choice" and len(told) == 2 and _are_cases(form, told[0])


def _is_span(bounds, least, greatest):
    """Tell whether two numbers within these bounds do not descend."""
    return all([_is_number(bound, least, greatest) for bound in bounds]) and bounds[0] <= bounds[1]


def _are_fields(form, fields):
    if not isinstance(fields, tuple) or len(fields) > MOST_FIELDS_DEFINED:
        return False
    return all([_is_field(form, field) for field in fields]) and is_ascending([field[0] for field in fields])


def _is_field(form, field):
    if not isinstance(field, tuple) or len(field) < 3 or not is_name(field[0]) or not _is_defined(form, field[1]):
        return False
    if field[2] == "default":
        return len(field) == 4
    return len(field) == 3 and field[2] in ("required", "optional")


def _are_cases(form, cases):
    if not isinstance(cases, tuple) or not 1 <= len(cases) <= MOST_CASES:
        return False
    return all([_is_case(form, case) for case in cases]) and is_ascending([case[0] for case in cases])


def _is_case(form, case):
    return isinstance(case, tuple) and len(case) == 2 and is_name(case[0]) and _is_defined(form, case[1])
