"""Sets of values that are told by rules, and the least values of them.

Each set has a key, a tuple of a word and of texts or numbers, so that any two keys have an order. Each of its rules is
a tuple (kind, what, keys): "value" with a value and no keys; "list" with None and the keys of the elements; "record"
with the names, ascending, and the keys of the fields; "choice" with the tag and the one key of its value. A rule puts
a value together of any values of the sets that its keys name. A least value is put together of least values, because
a value with a lesser part is less.
"""

from heapq import heappop, heappush

from formatfit.values import LARGEST_SIZE, least_among, size_of

NONE = ("none", None)
LARGE = ("large", None)


def value_rule(value):
    """Return the rule of one value."""
    return ("value", value, ())


def list_rule(keys):
    """Return the rule of the lists of such elements."""
    return ("list", None, tuple(keys))


def fields_rule(named_keys):
    """Return the rule of the records with such fields, given as tuples (name, key) by ascending names."""
    return ("record", tuple([name for name, _ in named_keys]), tuple([key for _, key in named_keys]))


def choice_rule(tag, key):
    """Return the rule of the choices with a tag and such a value."""
    return ("choice", tag, (key,))


def _own_size(rule):
    return size_of(rule[1]) if rule[0] == "value" else 1


class Pending:
    """A rule of a key, how many of its parts have no size yet, and the size of the others."""

    def __init__(self, key, rule):
        self.key = key
        self.missing = len(rule[2])
        self.size = _own_size(rule)


def least_sizes(rules):
    """Return the size of the least value of each key that has one, in a dict of ascending sizes."""
    users = {}
    queue = []
    for key in rules:
        for rule in rules[key]:
            pending = Pending(key, rule)
            for part in rule[2]:
                users.setdefault(part, []).append(pending)
            if pending.missing == 0:
                heappush(queue, (pending.size, key))
    sizes = {}
    while queue:
        # A value is larger than each of its parts, so nothing that is found later is less than this size.
        size, key = heappop(queue)
        if key not in sizes:
            sizes[key] = size
            for pending in users.get(key, []):
                pending.missing -= 1
                pending.size += size
                if pending.missing == 0:
                    heappush(queue, (pending.size, pending.key))
    return sizes


def _size_by(rule, sizes):
    """Return the size of the least value by a rule, or None if there is none."""
    size = _own_size(rule)
    for key in rule[2]:
        if key not in sizes:
            return None
        size += sizes[key]
    return size


def _built(rule, least):
    """Return the least value by a rule, of the least values of its keys."""
    parts = [least[key] for key in rule[2]]
    if rule[0] == "value":
        return rule[1]
    if rule[0] == "list":
        return parts
    if rule[0] == "record":
        return dict(zip(rule[1], parts))
    return (rule[1], parts[0])


def solved(rules):
    """Return a dict from each key to ("value", its least value), LARGE if that is too large, or NONE."""
    sizes = least_sizes(rules)
    least = {}
    for key in sizes:
        size = sizes[key]
        if size <= LARGEST_SIZE:
            # The parts are smaller, so they have been found before.
            least[key] = least_among([_built(rule, least) for rule in rules[key] if _size_by(rule, sizes) == size])
    told = {}
    for key in rules:
        if key in least:
            told[key] = ("value", least[key])
        else:
            told[key] = LARGE if key in sizes else NONE
    return told
