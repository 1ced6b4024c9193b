"""The machine of a guard: it carries out steps, and it may stop and lose what was not flushed."""

from vaultbridge.letters import is_letter
from vaultbridge.notes import Notes


class Machine:
    """Carries out the steps of one guard, in whose name it asks the notary for seals."""

    def __init__(self, name, notary):
        self._name = name
        self._notary = notary
        self._notes = Notes()

    def journal(self):
        """A list of the entries."""
        return self._notes.rows()

    def carry_out(self, steps, count):
        """Carries out the first `count` steps; returns the numbers of the seals that were made."""
        seals = []
        for step in steps[:max(0, count)]:
            word = step[0]
            if word == "write":
                self._notes.add(step[1])
            elif word == "flush":
                self._notes.flush()
            elif is_letter(step[1]):
                # a transfer with an account that is too long gives no well formed letter; it must not hold up the rest
                seals.append(self._notary.seal(self._name, step[1]))
        return seals

    def crash(self, lost):
        """Drops the last `lost` entries of the journal, but none that was flushed."""
        self._notes.crash(lost)
