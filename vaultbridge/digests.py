"""Digests: a table of made-up numbers for values."""

from vaultbridge.errors import UnknownDigest
from vaultbridge.notation import write


class Digests:
    """Gives numbers to values, counted from 0: the same one to the same value, and different ones to others."""

    def __init__(self):
        self._values = []
        self._numbers = {}

    def number(self, value):
        """The number of a value, which gets one if it has none."""
        # by its written form, since a value may be nested too deep for a key
        form = write(value)
        if form not in self._numbers:
            self._numbers[form] = len(self._values)
            self._values.append(value)
        return self._numbers[form]

    def value(self, number):
        """The value that has a number."""
        if not 0 <= number < len(self._values):
            raise UnknownDigest("no value has this number")
        return self._values[number]

    def count(self):
        """How many values have a number."""
        return len(self._values)
