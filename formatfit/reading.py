"""Reading a value by a format."""

from formatfit.errors import TooLarge
from formatfit.formats import case_of
from formatfit.values import LARGEST_SIZE, copy_of, size_of
from formatfit.writing import is_kind, is_within

# What is told of a value of the right kind that does not keep the bounds of a definition.
REASONS = {"integer": "out of range", "text": "too long", "list": "wrong length"}


class Reading:
    """A value that is being read: the steps that are left, the next one last, and the values that have been made.

    The steps are kept here, and not by functions that call themselves, because a value can be some hundred deep. A
    step is a tuple (word, what, value, path): "read" a value by the definition called what; tell that a field is
    "missing"; make the "default" value; take the parts that have been made last, and make a "list" of so many, a
    "record" with these names, or a "choice" with this tag.
    """

    def __init__(self, form):
        self.form = form
        self.steps = []
        self.made = []

    def put_off(self, steps):
        """Do these steps next, in their order."""
        self.steps.extend(steps[::-1])

    def go_on(self):
        """Do the next step; return a failure, or None."""
        word, what, value, path = self.steps.pop()
        if word == "read":
            return self.read_part(self.form.of(what), value, path)
        if word == "missing":
            return ("failure", "missing field", path)
        if word == "default":
            self.made.append(copy_of(value))
        else:
            self.put_together(word, what)
        return None

    def read_part(self, definition, value, path):
        """Read a value by a definition, and put its parts off."""
        kind = definition[0]
        if kind == "any":
            self.made.append(copy_of(value))
            return None
        if not is_kind(definition, value):
            return ("failure", "wrong kind", path)
        if kind == "record":
            self.put_off(_steps_of_record(definition, value, path))
            return None
        if kind == "choice":
            return self.read_choice(definition, value, path)
        if not is_within(definition, value):
            return ("failure", REASONS[kind], path)
        if kind == "list":
            self.put_off(_steps_of_list(definition, value, path))
        else:
            self.made.append(value)
        return None

    def read_choice(self, definition, value, path):
        """Read a choice by a choice definition, and put its value off."""
        tag, inner = value
        known = case_of(definition, tag)
        if known is not None:
            self.put_off([("read", known, inner, [*path, "$" + tag]), ("choice", tag, None, path)])
        elif definition[2] is None:
            return ("failure", "unknown tag", path)
        else:
            self.made.append(copy_of(definition[2]))
        return None

    def put_together(self, word, what):
        """Make a value of the parts that have been made last."""
        if word == "choice":
            self.made.append((what, self.made.pop()))
            return
        many = what if word == "list" else len(what)
        start = len(self.made) - many
        parts = self.made[start:]
        del self.made[start:]
        self.made.append(parts if word == "list" else dict(zip(what, parts)))


def _steps_of_list(definition, value, path):
    """Return the steps that read a list of a right length."""
    steps = [("read", definition[1], part, [*path, at]) for at, part in enumerate(value)]
    return [*steps, ("list", len(value), None, path)]


def _steps_of_record(definition, value, path):
    """Return the steps that read the fields of a record, in the order of the definition."""
    steps = []
    names = []
    for field in definition[1]:
        name = field[0]
        if name in value:
            steps.append(("read", field[1], value[name], [*path, name]))
            names.append(name)
        elif field[2] == "required":
            steps.append(("missing", None, None, [*path, name]))
        elif field[2] == "default":
            steps.append(("default", None, field[3], path))
            names.append(name)
    return [*steps, ("record", names, None, path)]


def read_by(form, name, value):
    """Read a value by a definition: return ("value", value) or ("failure", reason, path)."""
    reading = Reading(form)
    reading.put_off([("read", name, value, [])])
    while reading.steps:
        failure = reading.go_on()
        if failure is not None:
            return failure
    return ("value", reading.made[0])


def read(form, value):
    """Read a value by a format: return ("value", value) or ("failure", reason, path); raise TooLarge."""
    told = read_by(form, form.root, value)
    if told[0] == "value" and size_of(told[1]) > LARGEST_SIZE:
        raise TooLarge()
    return told


def read_along(forms, value):
    """Read a value by a format after the other: return ("value", value, many) or ("failure", reason, path, many)."""
    told = ("value", copy_of(value))
    for many, form in enumerate(forms):
        told = read(form, told[1])
        if told[0] == "failure":
            return (*told, many)
    return (*told, len(forms))
