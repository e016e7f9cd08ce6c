"""The common format of two formats: it is read by exactly those formats that can read both."""

from formatfit.formats import Format, case_of, field_of, is_always, renamed, types_of
from formatfit.least import names_with_values


def _plain(definition):
    """Return a definition with required fields in place of those with a default, and without a fallback."""
    if definition[0] == "record":
        fields = [(field[0], field[1], "required" if is_always(field) else "optional") for field in definition[1]]
        return ("record", tuple(fields))
    if definition[0] == "choice":
        return ("choice", definition[1], None)
    return definition


def _effective_length(definition, having):
    """Return the greatest length of the lists of a definition; having tells which names have values."""
    return definition[3] if definition[1] in having else 0


def _names_of_both(mine, theirs):
    """Return all names of the fields or the tags of two definitions, ascending."""
    return sorted({part[0] for part in [*mine[1], *theirs[1]]})


class Common:
    """Two formats whose common format is put together.

    A common type is told by a pair: the names of the type of the first format and of the second one, or None in place
    of one of them for a type that is taken from the other format alone.
    """

    def __init__(self, first, second):
        self.first = first
        self.second = second
        self.first_having = names_with_values(first)
        self.second_having = names_with_values(second)

    def pair(self, mine, theirs):
        """Return the pair of the common type of two types, one of which may be None."""
        if mine is None or theirs is None:
            return (mine, theirs)
        if theirs not in self.second_having:
            return (mine, None)
        return (mine, theirs) if mine in self.first_having else (None, theirs)

    def definition(self, pair):
        """Return the definition of a common type, with the pairs of its types in place of names."""
        if pair[1] is None:
            made = _plain(self.first.of(pair[0]))
            return renamed(made, {inner: (inner, None) for inner in types_of(made)})
        if pair[0] is None:
            made = _plain(self.second.of(pair[1]))
            return renamed(made, {inner: (None, inner) for inner in types_of(made)})
        mine, theirs = self.first.of(pair[0]), self.second.of(pair[1])
        if mine[0] == "any" or mine[0] != theirs[0]:
            return ("any",)
        if mine[0] == "integer":
            return ("integer", min(mine[1], theirs[1]), max(mine[2], theirs[2]))
        if mine[0] == "text":
            return ("text", max(mine[1], theirs[1]))
        if mine[0] == "list":
            return self.list_of_both(mine, theirs)
        if mine[0] == "record":
            return self.record_of_both(mine, theirs)
        tags = _names_of_both(mine, theirs)
        return ("choice", tuple([(tag, self.pair(case_of(mine, tag), case_of(theirs, tag))) for tag in tags]), None)

    def list_of_both(self, mine, theirs):
        """Return the common definition of two of lists."""
        length = _effective_length(mine, self.first_having)
        other = _effective_length(theirs, self.second_having)
        if length >= 1 and other >= 1:
            inner = self.pair(mine[1], theirs[1])
        else:
            inner = (None, theirs[1]) if other >= 1 else (mine[1], None)
        return ("list", inner, min(mine[2], theirs[2]), max(length, other))

    def record_of_both(self, mine, theirs):
        """Return the common definition of two of records."""
        fields = []
        for name in _names_of_both(mine, theirs):
            field, other = field_of(mine, name), field_of(theirs, name)
            if other is None:
                fields.append((name, self.pair(field[1], None), "optional"))
            elif field is None:
                fields.append((name, self.pair(None, other[1]), "optional"))
            else:
                presence = "required" if is_always(field) and is_always(other) else "optional"
                fields.append((name, self.pair(field[1], other[1]), presence))
        return ("record", tuple(fields))


def common_format(first, second):
    """Return the common format of two formats."""
    common = Common(first, second)
    root = common.pair(first.root, second.root)
    names = {root: "t0"}
    definitions = {}
    met = [root]
    # The pairs that are met last wait at the end: the search is one in breadth.
    while len(definitions) < len(met):
        pair = met[len(definitions)]
        made = common.definition(pair)
        for inner in types_of(made):
            if inner not in names:
                names[inner] = f"t{len(names)}"
                met.append(inner)
        definitions[names[pair]] = renamed(made, names)
    return Format(names[root], definitions)
