"""Texts of formats: the canonical text, and reading a text."""

from formatfit.errors import BadFormat, EndError, LineError, SignError
from formatfit.formats import Format
from formatfit.value_text import Scan, format_value, value_prefix
from formatfit.values import FIGURES, LETTERS, is_ascending
from formatfit.writing import checked


def format_text(form):
    """Return the canonical text of a format."""
    lines = [f"root {form.root}"]
    for name in form.names():
        lines.append(f"{name} {definition_text(form.of(name))}")
    return "\n".join(lines)


def definition_text(definition):
    """Return the canonical text of a definition: its line without the name. Different ones have different texts."""
    if definition[0] == "record":
        return _joined("record", ", ".join([_field_text(field) for field in definition[1]]))
    if definition[0] == "choice":
        cases = _joined("choice", ", ".join([f"{tag} {inner}" for tag, inner in definition[1]]))
        return cases if definition[2] is None else f"{cases} fallback {format_value(definition[2])}"
    return " ".join([str(word) for word in definition])


def _joined(word, listed):
    return f"{word} {listed}" if listed else word


def _field_text(field):
    text = f"{field[0]} {field[1]}"
    if field[2] == "required":
        return text
    return f"{text} optional" if field[2] == "optional" else f"{text} default {format_value(field[3])}"


class LineScan(Scan):
    """A line of a text of a format that is being read.

    A name behind another word needs no test for the space between them: without it they would be one word.
    """

    def number(self, first):
        """Read a number that begins with one of these characters, and the spaces that have to stand ahead of it."""
        if not self.comes(" "):
            self.refuse()
        self.run(" ")
        if not self.comes(first):
            self.refuse()
        return self.integer()

    def length(self):
        """Read a number that is not negative."""
        return self.number(FIGURES)

    def bound(self):
        """Read a number that may be negative."""
        return self.number("-" + FIGURES)

    def value(self):
        """Read the value behind a word."""
        # No letter or figure can come here, it would have been read as part of the word.
        if self.comes("-"):
            self.refuse()
        made, fits, behind = value_prefix(self.text, self.place)
        self.place = behind
        self.fits = self.fits and fits
        return made

    def is_at_end(self):
        """Read the spaces that come next, and tell whether nothing stands behind them."""
        self.run(" ")
        return self.place == len(self.text)

    def end(self):
        """Read the end of the line."""
        if not self.is_at_end():
            self.refuse()

    def goes_on(self):
        """Read the comma that comes next and tell whether there is one."""
        self.run(" ")
        if not self.comes(","):
            return False
        self.place += 1
        return True

    def root_line(self):
        """Read the first line, and return the root."""
        if self.name() != "root":
            self.refuse()
        name = self.name()
        self.end()
        return name

    def definition_line(self):
        """Read another line, and return a name and its definition."""
        name = self.name()
        made = self.told(self.name())
        self.end()
        return name, made

    def told(self, kind):
        """Read what a definition tells behind the word for its kind, and return the definition."""
        if kind == "any":
            return (kind,)
        if kind == "integer":
            return (kind, self.bound(), self.bound())
        if kind == "text":
            return (kind, self.length())
        if kind == "list":
            return (kind, self.name(), self.length(), self.length())
        if kind == "record":
            return (kind, self.fields())
        if kind != "choice":
            self.refuse()
        return self.choice()

    def fields(self):
        """Read the fields of a record."""
        if self.is_at_end():
            return ()
        made = [self.one_field()]
        while self.goes_on():
            made.append(self.one_field())
        return tuple(made)

    def one_field(self):
        """Read a field."""
        name = self.name()
        inner = self.name()
        self.run(" ")
        if not self.comes(LETTERS):
            return (name, inner, "required")
        presence = self.name()
        if presence == "optional":
            return (name, inner, presence)
        if presence != "default":
            self.refuse()
        return (name, inner, presence, self.value())

    def choice(self):
        """Read the cases and the fallback of a choice."""
        cases = [self.one_case()]
        while self.goes_on():
            cases.append(self.one_case())
        fallback = None
        if self.comes(LETTERS):
            if self.name() != "fallback":
                self.refuse()
            fallback = self.value()
        return ("choice", tuple(cases), fallback)

    def one_case(self):
        """Read a case."""
        tag = self.name()
        return (tag, self.name())


def _read_lines(scans):
    """Return the root and a list of the names with their definitions."""
    line = 1
    try:
        root = scans[0].root_line()
        named = []
        for scan in scans[1:]:
            line += 1
            named.append(scan.definition_line())
    except (SignError, EndError):
        raise LineError(line) from None
    return root, named


def parse_format(text):
    """Return the format of a text."""
    scans = [LineScan(line, 0) for line in text.split("\n")]
    root, named = _read_lines(scans)
    if not is_ascending([name for name, _ in named]) or not all([scan.fits for scan in scans]):
        raise BadFormat()
    return checked(Format(root, dict(named)))
