"""Names and values: their bounds, sizes, depths and parts, and the order of values."""

LETTERS = "abcdefghijklmnopqrstuvwxyz"
FIGURES = "0123456789"

LONGEST_NAME = 8
LARGEST_INTEGER = 1000000
LONGEST_TEXT = 20
MOST_FIELDS = 8
DEEPEST = 20
LARGEST_SIZE = 300

INTEGER = 0
TEXT = 1
LIST = 2
RECORD = 3
CHOICE = 4


def is_name(text):
    """Tell whether a text is a name."""
    if not isinstance(text, str) or not 1 <= len(text) <= LONGEST_NAME:
        return False
    return text[0] in LETTERS and _has_only(text, LETTERS + FIGURES)


def _has_only(text, signs):
    return all([sign in signs for sign in text])


def is_ascending(names):
    """Tell whether the names of a list are strictly ascending."""
    return all([name < later for name, later in zip(names, names[1:])])


def kind_of(value):
    """Return the number of the kind of a value."""
    if isinstance(value, int):
        return INTEGER
    if isinstance(value, str):
        return TEXT
    if isinstance(value, list):
        return LIST
    if isinstance(value, dict):
        return RECORD
    return CHOICE


def sorted_fields(record):
    """Return the tuples (name, value) of a record, by ascending names."""
    return [(name, record[name]) for name in sorted(record)]


def _named_parts(value):
    """Return the parts of a value, each behind its name or tag, or behind an empty text in a list."""
    kind = kind_of(value)
    if kind == LIST:
        return [("", part) for part in value]
    if kind == RECORD:
        return sorted_fields(value)
    if kind == CHOICE:
        return [value]
    return []


def parts_of(value):
    """Return the list of the values directly within a value."""
    return [part for _, part in _named_parts(value)]


def _own_size(value):
    return 1 + len(value) if isinstance(value, str) else 1


def size_of(value):
    """Return the size of a value."""
    size = 0
    waiting = [value]
    while waiting:
        part = waiting.pop()
        size += _own_size(part)
        waiting.extend(parts_of(part))
    return size


def _has_depth(value):
    return kind_of(value) >= LIST


def depth_of(value):
    """Return how deep a value is."""
    depth = 0
    level = [value] if _has_depth(value) else []
    while level:
        depth += 1
        level = [part for outer in level for part in parts_of(outer) if _has_depth(part)]
    return depth


def _keeps_own_bounds(value):
    """Tell whether a value is right, whatever the values within it are."""
    if isinstance(value, bool):
        return False
    if isinstance(value, int):
        return -LARGEST_INTEGER <= value <= LARGEST_INTEGER
    if isinstance(value, str):
        return len(value) <= LONGEST_TEXT and _has_only(value, LETTERS)
    if isinstance(value, dict):
        return len(value) <= MOST_FIELDS and all([is_name(name) for name in value])
    if isinstance(value, tuple):
        return len(value) == 2 and is_name(value[0])
    return isinstance(value, list)


def is_value(value):
    """Tell whether Python data form a value that may be passed in."""
    size = 0
    # Each part waits with the number of values that it is within. It is tested before its parts
    # are asked for, and nothing too deep or too large is followed any further.
    waiting = [(value, 0)]
    while waiting:
        part, around = waiting.pop()
        if not _keeps_own_bounds(part) or (_has_depth(part) and around == DEEPEST):
            return False
        size += _own_size(part)
        if size > LARGEST_SIZE:
            return False
        waiting.extend([(inner, around + 1) for inner in parts_of(part)])
    return True


def _compare(first, second):
    if first == second:
        return 0
    return -1 if first < second else 1


def _head(value):
    """Return what decides the order of values ahead of their parts."""
    kind = kind_of(value)
    if kind == INTEGER:
        return (1, kind, abs(value), value < 0)
    if kind == TEXT:
        return (_own_size(value), kind, value)
    return (size_of(value), kind)


def compare_values(first, second):
    """Return -1, 0 or 1: the first value comes before the second one, is equal to it, or comes after it."""
    order = _compare(_head(first), _head(second))
    if order != 0:
        return order
    # The sizes are the same here, so if all common parts are equal, neither value has a further one.
    for one, other in zip(_named_parts(first), _named_parts(second)):
        order = _compare(one[0], other[0])
        if order == 0:
            order = compare_values(one[1], other[1])
        if order != 0:
            return order
    return 0


def copy_of(value):
    """Return an equal value that shares nothing with this one, and whose records have ascending names."""
    if kind_of(value) == CHOICE:
        return (value[0], copy_of(value[1]))
    if not _has_depth(value):
        return value
    # A comprehension may count as a call of its own, and a value can be some hundred deep.
    parts = []
    for part in parts_of(value):
        parts.append(copy_of(part))
    return parts if kind_of(value) == LIST else dict(zip(sorted(value), parts))


def least_among(values):
    """Return the least value of a list in which None counts as nothing, itself, or None."""
    least = None
    for value in values:
        if value is not None and (least is None or compare_values(value, least) < 0):
            least = value
    return least


def least_of(values):
    """Return the least value of a list in which None counts as nothing, or None."""
    least = least_among(values)
    # The caller's own value may have its names in another order, and what is returned is new.
    return None if least is None else copy_of(least)
