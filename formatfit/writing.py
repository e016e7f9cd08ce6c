"""What the definitions of a format write, and what makes a format of what has the form of one."""

from formatfit.errors import BadFormat
from formatfit.formats import case_of, field_of, is_always, is_shaped
from formatfit.values import is_value, kind_of

# The words of the definitions, in the order of the numbers of the kinds.
KINDS = ("integer", "text", "list", "record", "choice")


def is_kind(definition, value):
    """Tell whether a value has the kind of a definition that is not any."""
    return KINDS[kind_of(value)] == definition[0]


def is_within(definition, value):
    """Tell whether an integer, a text or the length of a list keeps the bounds of a definition of its kind."""
    if definition[0] == "integer":
        return definition[1] <= value <= definition[2]
    if definition[0] == "text":
        return len(value) <= definition[1]
    return definition[2] <= len(value) <= definition[3]


def _has_right_fields(definition, record):
    for field in definition[1]:
        if is_always(field) and field[0] not in record:
            return False
    return all([field_of(definition, name) is not None for name in record])


def _is_outside_right(definition, value):
    """Tell whether a definition that is not any writes a value, if its types write the parts of it."""
    if not is_kind(definition, value):
        return False
    if definition[0] == "record":
        return _has_right_fields(definition, value)
    if definition[0] == "choice":
        return case_of(definition, value[0]) is not None
    return is_within(definition, value)


def _typed_parts(definition, value):
    """Return each part of a value behind its type; the value is right but for its parts."""
    if definition[0] == "list":
        return [(definition[1], part) for part in value]
    if definition[0] == "record":
        return [(field_of(definition, name)[1], value[name]) for name in value]
    if definition[0] == "choice":
        return [(case_of(definition, value[0]), value[1])]
    return []


def writes(form, name, value):
    """Tell whether the definition of a name writes a value."""
    waiting = [(name, value)]
    while waiting:
        inner, part = waiting.pop()
        definition = form.of(inner)
        if definition[0] != "any":
            if not _is_outside_right(definition, part):
                return False
            waiting.extend(_typed_parts(definition, part))
    return True


def is_written(form, value):
    """Tell whether a format writes a value."""
    return writes(form, form.root, value)


def _keeps_values(form, name):
    """Tell whether the defaults or the fallback of a definition are values that are written where they stand."""
    definition = form.of(name)
    if definition[0] == "record":
        defaults = [(field[1], field[3]) for field in definition[1] if field[2] == "default"]
        return all([is_value(value) and writes(form, inner, value) for inner, value in defaults])
    if definition[0] == "choice" and definition[2] is not None:
        return is_value(definition[2]) and writes(form, name, definition[2])
    return True


def is_format(form):
    """Tell whether what may have the form of a format is one."""
    return is_shaped(form) and all([_keeps_values(form, name) for name in form.definitions])


def checked(form):
    """Return a format; raise BadFormat if it is none."""
    if not is_format(form):
        raise BadFormat()
    return form
