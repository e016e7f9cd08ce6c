"""A journal of a registry: a record on a device for each change, and what is recovered of the records."""

from formatfit.errors import BadFormat, LineError, PowerCut, ShutError
from formatfit.format_text import format_text, parse_format
from formatfit.registry import Registry
from formatfit.values import FIGURES, LETTERS

# The first octet of a body, for each kind of change.
VERSION = 1
WITHDRAWAL = 2

# The last octet of each record.
MARK = 170

# How many octets a record has beside its body.
AROUND = 4

# The characters of canonical texts of formats beside letters and figures.
SIGNS = " \n-\"[]{}(),:"


def record_of(text):
    """Return the record of a version by its canonical text, or of a withdrawal by None."""
    body = [WITHDRAWAL] if text is None else [VERSION, *[ord(sign) for sign in text]]
    return [len(body) // 256, len(body) % 256, *body, sum(body) % 256, MARK]


def _whole_body(octets, place):
    """Return the body of the record that begins at a place, or None if it is cut off or its last octets are wrong."""
    start = place + 2
    if start > len(octets):
        return None
    end = start + octets[place] * 256 + octets[place + 1]
    body = octets[start:end]
    return body if octets[end:end + 2] == [sum(body) % 256, MARK] else None


def _is_canonical(text):
    """Tell whether a text is the canonical one of a format within the bounds."""
    try:
        return format_text(parse_format(text)) == text
    except (LineError, BadFormat):
        return False


def _change_of(body):
    """Return whether a body is right, and the text of the version, or None for a withdrawal."""
    if body == [WITHDRAWAL]:
        return (True, None)
    signs = {ord(sign): sign for sign in LETTERS + FIGURES + SIGNS}
    if body[:1] != [VERSION] or not all([octet in signs for octet in body[1:]]):
        return (False, None)
    text = "".join([signs[octet] for octet in body[1:]])
    return (_is_canonical(text), text)


def recovered(octets):
    """Return the texts of the whole records, None for withdrawals, and how many octets these records take."""
    texts = []
    place = 0
    while True:
        body = _whole_body(octets, place)
        if body is None:
            return (texts, place)
        is_right, text = _change_of(body)
        if not is_right:
            return (texts, place)
        texts.append(text)
        place += len(body) + AROUND


class Device:
    """Octets that have been written, and how many can still be written until the power goes."""

    def __init__(self, octets, power):
        self.octets = list(octets)
        self.power = power

    def append(self, octet):
        """Write an octet; raise PowerCut if the power is gone."""
        if self.power <= 0:
            raise PowerCut(len(self.octets))
        self.power -= 1
        self.octets.append(octet)


class JournaledRegistry:
    """A registry whose changes are written to a device; it is shut when the power goes."""

    def __init__(self, registry, device):
        self.registry = registry
        self.device = device
        self.shut = False

    def admit(self, form):
        """Make a format the next version, write its record, and return its number."""
        self.require_power()
        number = self.registry.admit(form)
        self.write(record_of(format_text(form)))
        return number

    def withdraw(self):
        """Remove the latest version, write the record of it and return True, or return False if there is none."""
        self.require_power()
        is_made = self.registry.withdraw()
        if is_made:
            self.write(record_of(None))
        return is_made

    def require_power(self):
        """Raise ShutError if the power is gone."""
        if self.shut:
            raise ShutError()

    def write(self, record):
        """Write a record to the device."""
        try:
            for octet in record:
                self.device.append(octet)
        except PowerCut:
            self.shut = True
            raise


def opened(promise, scope, octets, power):
    """Return the journaled registry of the octets of a device, whose rest is cut off."""
    texts, taken = recovered(octets)
    registry = Registry(promise, scope)
    for text in texts:
        # These changes have been made, so the promise has been kept; nothing is asked again.
        if text is None:
            registry.withdraw()
        else:
            registry.versions.append(parse_format(text))
    return JournaledRegistry(registry, Device(octets[:taken], power))
