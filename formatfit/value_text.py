"""Texts of values: the canonical text, and reading a text."""

from formatfit.errors import BadValue, EndError, SignError
from formatfit.values import FIGURES, INTEGER, LETTERS, LIST, RECORD, TEXT
from formatfit.values import is_ascending, is_value, kind_of, sorted_fields

CLOSING = {"[": "]", "{": "}", "(": ")"}
# The number of characters of -1000000, the longest integer within the bounds.
LONGEST_INTEGER = 8


def format_value(value):
    """Return the canonical text of a value."""
    kind = kind_of(value)
    if kind == INTEGER:
        return str(value)
    if kind == TEXT:
        return f'"{value}"'
    if kind == LIST:
        return "[" + ", ".join([format_value(part) for part in value]) + "]"
    if kind == RECORD:
        return "{" + ", ".join([f"{name}: {format_value(part)}" for name, part in sorted_fields(value)]) + "}"
    return f"{value[0]}({format_value(value[1])})"


class Opened:
    """A list, a record or a choice of which only the beginning has been read."""

    def __init__(self, sign, labels):
        self.sign = sign
        self.labels = labels
        self.parts = []

    def closed(self):
        """Return the value whose parts have all been read."""
        if self.sign == "[":
            return self.parts
        if self.sign == "(":
            return (self.labels[0], self.parts[0])
        return dict(zip(self.labels, self.parts))


class Scan:
    """A text that is being read, the place of the next character, and whether all so far may be a value.

    The last tells only what the value that is read does not show: numbers that are far too long, and wrong
    orders of fields.
    """

    def __init__(self, text, place):
        self.text = text
        self.place = place
        self.fits = True

    def refuse(self):
        """Tell that no text goes on here."""
        if self.place >= len(self.text):
            raise EndError()
        raise SignError(self.place)

    def comes(self, signs):
        """Tell whether the next character is one of these."""
        return self.place < len(self.text) and self.text[self.place] in signs

    def run(self, signs):
        """Read all of these characters that come next."""
        start = self.place
        while self.comes(signs):
            self.place += 1
        return self.text[start:self.place]

    def take(self, sign):
        """Read the token that has to come next, of one character, and the spaces ahead of it."""
        self.run(" ")
        if not self.comes(sign):
            self.refuse()
        self.place += 1

    def name(self):
        """Read a name or a tag, and the spaces ahead of it."""
        self.run(" ")
        if not self.comes(LETTERS):
            self.refuse()
        return self.run(LETTERS + FIGURES)

    def quoted(self):
        """Read a text with its quotes."""
        self.place += 1
        letters = self.run(LETTERS)
        if not self.comes('"'):
            self.refuse()
        self.place += 1
        return letters

    def integer(self):
        """Read an integer."""
        start = self.place
        if self.comes("-"):
            self.place += 1
            if not self.comes("123456789"):
                self.refuse()
        if self.comes("0"):
            self.place += 1
        else:
            self.run(FIGURES)
        # Python itself refuses to convert a number of some thousand figures.
        if self.place - start > LONGEST_INTEGER:
            self.fits = False
            return 0
        return int(self.text[start:self.place])

    def begin_part(self, part):
        """Read what stands ahead of the next value of a list or a record."""
        if part.sign == "{":
            part.labels.append(self.name())
            self.take(":")

    def begin(self, around):
        """Read a value that has no parts and return it, or open one that has some and return None."""
        self.run(" ")
        if self.comes("-" + FIGURES):
            return self.integer()
        if self.comes('"'):
            return self.quoted()
        if not self.comes("[{"):
            part = Opened("(", [self.name()])
            self.take("(")
            around.append(part)
            return None
        part = Opened(self.text[self.place], [])
        self.place += 1
        self.run(" ")
        if self.comes(CLOSING[part.sign]):
            self.place += 1
            return part.closed()
        self.begin_part(part)
        around.append(part)
        return None

    def go_on(self, around, value):
        """Give a value to the innermost open one; return that one if it ends, None if a part of it follows."""
        part = around[-1]
        part.parts.append(value)
        self.run(" ")
        if part.sign != "(" and self.comes(","):
            self.place += 1
            self.begin_part(part)
            return None
        self.take(CLOSING[part.sign])
        around.pop()
        # A dict does not tell in which order the fields stood, nor whether one stood twice.
        self.fits = self.fits and is_ascending(part.labels)
        return part.closed()


def value_prefix(text, place):
    """Read the value that begins at a place: return it, whether it is within the bounds, and the place behind it."""
    scan = Scan(text, place)
    # The open values, the outermost first: a text may be nested deeper than functions can call themselves.
    around = []
    value = scan.begin(around)
    while around:
        value = scan.begin(around) if value is None else scan.go_on(around, value)
    fits = scan.fits and is_value(value)
    return (value if fits else 0), fits, scan.place


def parse_value(text):
    """Return the value of a text."""
    value, fits, place = value_prefix(text, 0)
    rest = Scan(text, place)
    rest.run(" ")
    if rest.place < len(text):
        rest.refuse()
    if not fits:
        raise BadValue()
    return value
