"""Certificates: what tells, without any search, that a reader can read a writer."""

from formatfit.compatibility import can_read
from formatfit.formats import always_types, case_of, field_of, is_always, types_of
from formatfit.least import names_with_values, names_without_values


def _pairs_behind(reading, writing):
    """Return the pairs of types that may be met behind a pair of definitions; any on a side has none."""
    if reading[0] != writing[0]:
        return []
    if reading[0] == "list":
        return [(reading[1], writing[1])] if writing[3] >= 1 else []
    if reading[0] == "record":
        both = [(field, field_of(writing, field[0])) for field in reading[1]]
        return [(field[1], written[1]) for field, written in both if written is not None]
    if reading[0] == "choice":
        return [(known, case_of(writing, tag)) for tag, known in reading[1] if case_of(writing, tag) is not None]
    return []


def met_pairs(reader, writer):
    """Return the pairs of names of a reader and a writer that are met, ascending."""
    having = names_with_values(writer)
    met = {}
    waiting = [(reader.root, writer.root)]
    while waiting:
        pair = waiting.pop()
        if pair[1] in having and pair not in met:
            met[pair] = True
            waiting.extend(_pairs_behind(reader.of(pair[0]), writer.of(pair[1])))
    return sorted(met)


def certify(reader, writer):
    """Return the least certificate that a reader can read a writer, or None if it cannot."""
    if not can_read(reader, writer):
        return None
    return (met_pairs(reader, writer), names_without_values(writer))


def _needs_one_of(definition, empty):
    """Tell whether each value of a definition has a part by one of these names."""
    if definition[0] == "list":
        return definition[2] >= 1 and definition[1] in empty
    if definition[0] == "record":
        return any([inner in empty for inner in always_types(definition)])
    return definition[0] == "choice" and all([inner in empty for inner in types_of(definition)])


class Claim:
    """A certificate whose entries can be asked for."""

    def __init__(self, certificate):
        self.pairs = {pair: True for pair in certificate[0]}
        self.empty = {name: True for name in certificate[1]}

    def covers(self, reading, writing):
        """Tell whether the type of the reader reads the values of that of the writer, or this one has none."""
        return writing in self.empty or (reading, writing) in self.pairs

    def fits_definition(self, reading, writing):
        """Tell whether a definition of the reader fits one of the writer."""
        if reading[0] == "any":
            return True
        if reading[0] != writing[0]:
            return False
        if reading[0] == "integer":
            return reading[1] <= writing[1] and writing[2] <= reading[2]
        if reading[0] == "text":
            return writing[1] <= reading[1]
        if reading[0] == "list":
            return self.fits_list(reading, writing)
        if reading[0] == "record":
            return all([self.fits_field(field, field_of(writing, field[0])) for field in reading[1]])
        return all([self.fits_case(reading, tag, inner) for tag, inner in writing[1]])

    def fits_list(self, reading, writing):
        """Tell whether a list definition of the reader fits one of the writer."""
        longest = 0 if writing[1] in self.empty else writing[3]
        if writing[2] < reading[2] or reading[3] < longest:
            return False
        return longest == 0 or (reading[1], writing[1]) in self.pairs

    def fits_field(self, field, written):
        """Tell whether a field of the reader fits that of the writer, or None if the writer has no such field."""
        if written is None or not is_always(written):
            if field[2] == "required":
                return False
        return written is None or self.covers(field[1], written[1])

    def fits_case(self, reading, tag, inner):
        """Tell whether a choice definition of the reader fits a case of one of the writer."""
        known = case_of(reading, tag)
        if known is None:
            return inner in self.empty or reading[2] is not None
        return self.covers(known, inner)


def is_certificate(reader, writer, certificate):
    """Tell whether a certificate is closed for a reader and a writer."""
    claim = Claim(certificate)
    for name in claim.empty:
        if name not in writer.definitions or not _needs_one_of(writer.of(name), claim.empty):
            return False
    if not claim.covers(reader.root, writer.root):
        return False
    for reading, writing in claim.pairs:
        if reading not in reader.definitions or writing not in writer.definitions:
            return False
        if not claim.fits_definition(reader.of(reading), writer.of(writing)):
            return False
    return True
