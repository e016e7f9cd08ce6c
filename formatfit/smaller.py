"""Smaller formats: without the definitions that nothing leads to, and with one in place of all that are alike."""

from formatfit.format_text import definition_text
from formatfit.formats import Format, renamed, types_of


def reached(form):
    """Return the names of the root and of all definitions that it leads to, ascending."""
    found = {}
    waiting = [form.root]
    while waiting:
        name = waiting.pop()
        if name not in found:
            found[name] = True
            waiting.extend(types_of(form.of(name)))
    return sorted(found)


def _divided(form, names, least):
    """Return the least name with an equal definition for each name; the names ascend.

    Types count as equal if they have the same least name so far.
    """
    divided = {}
    first = {}
    for name in names:
        text = definition_text(renamed(form.of(name), least))
        if text not in first:
            first[text] = name
        divided[name] = first[text]
    return divided


def classes(form):
    """Return a dict from each reached name to the least reached name that is alike."""
    names = reached(form)
    # All count as alike at first; what turns out to be different is divided until nothing is any more.
    least = {name: names[0] for name in names}
    divided = _divided(form, names, least)
    while divided != least:
        least = divided
        divided = _divided(form, names, least)
    return least


def smaller_format(form):
    """Return the format with the reached names alone, and with the least name in place of all that are alike."""
    least = classes(form)
    definitions = {name: renamed(form.of(name), least) for name in least if least[name] == name}
    return Format(least[form.root], definitions)
