"""Registries: versions of a format, each of which keeps a promise towards earlier ones."""

from formatfit.compatibility import can_read
from formatfit.errors import BrokenPromise, NoSuchVersion, TooMany
from formatfit.reading import read_along

MOST_VERSIONS = 20


class Registry:
    """Versions, numbered from 1, with a promise ("backward", "forward" or "both") and a scope ("last" or "all")."""

    def __init__(self, promise, scope):
        self.promise = promise
        self.scope = scope
        self.versions = []

    def count(self):
        """Return the number of versions."""
        return len(self.versions)

    def admit(self, form):
        """Make a format the next version and return its number; raise TooMany, BrokenPromise."""
        if self.count() >= MOST_VERSIONS:
            raise TooMany()
        numbers = list(range(1, self.count() + 1))
        if self.scope == "last":
            numbers = numbers[-1:]
        for number in numbers:
            if not self.keeps_promise(form, self.version(number)):
                raise BrokenPromise(number)
        self.versions.append(form)
        return self.count()

    def keeps_promise(self, form, earlier):
        """Tell whether a format keeps the promise towards an earlier one."""
        if self.promise != "forward" and not can_read(form, earlier):
            return False
        return self.promise == "backward" or can_read(earlier, form)

    def withdraw(self):
        """Remove the latest version and return True, or return False if there is none."""
        if self.count() == 0:
            return False
        self.versions.pop()
        return True

    def version(self, number):
        """Return the version with a number; raise NoSuchVersion."""
        if not 1 <= number <= self.count():
            raise NoSuchVersion(number)
        return self.versions[number - 1]

    def carry(self, value, start, end):
        """Carry a value from one version to another one.

        Return ("value", value), or ("failure", reason, path, version); raise NoSuchVersion, TooLarge.
        """
        self.version(start)
        self.version(end)
        upwards = list(range(start + 1, end + 1))
        numbers = upwards if start <= end else list(range(start - 1, end - 1, -1))
        told = read_along([self.version(number) for number in numbers], value)
        if told[0] == "value":
            return ("value", told[1])
        _, reason, path, many = told
        return ("failure", reason, path, numbers[many])

    def fork(self):
        """Return a registry of its own with the same promise, scope and versions."""
        forked = Registry(self.promise, self.scope)
        forked.versions.extend(self.versions)
        return forked
