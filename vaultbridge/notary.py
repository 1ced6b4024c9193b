"""The notary: a table of made-up seals."""

from vaultbridge.errors import InvalidOrder, UnknownSeal
from vaultbridge.letters import is_letter


class Notary:
    """A table of seals, numbered from 0; each says that a guard sealed a letter."""

    def __init__(self):
        self._table = []
        self._numbers = {}

    def seal(self, guard, letter):
        """Returns the number of the seal of a guard for a letter; a new one is added."""
        if not is_letter(letter):
            raise InvalidOrder("the letter is not well formed")
        entry = (guard, letter)
        if entry not in self._numbers:
            self._numbers[entry] = len(self._table)
            self._table.append(entry)
        return self._numbers[entry]

    def count(self):
        """How many seals the table has."""
        return len(self._table)

    def check_seals(self, seals):
        """Raises UnknownSeal if one of the numbers is not in the table."""
        for number in seals:
            if not 0 <= number < len(self._table):
                raise UnknownSeal("the table has no such seal")

    def shown(self, number):
        """The guard and the letter of a seal."""
        self.check_seals([number])
        return self._table[number]

    def weight(self, guards, letter, seals):
        """The weight of the guards of a set of which a seal in `seals` is for this letter."""
        self.check_seals(seals)
        sealers = {}
        for number in seals:
            guard, sealed = self._table[number]
            if sealed == letter:
                sealers[guard] = True
        return sum([part for guard, part in guards if guard in sealers])
