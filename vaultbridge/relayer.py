"""A relayer: it collects seal numbers and brings letters to the ledgers."""

from vaultbridge.notes import Notes
from vaultbridge.relay import ready_orders


class Relayer:
    """Keeps the seal numbers that it received, each once, in the order in which they came first."""

    def __init__(self, name, config, notary):
        self._name = name
        self._config = config
        self._notary = notary
        self._notes = Notes()

    def receive(self, seal):
        """Receives a seal number."""
        self._notary.check_seals([seal])
        if seal not in self._notes.rows():
            self._notes.add(seal)

    def seals(self):
        """A list of the seal numbers."""
        return self._notes.rows()

    def flush(self):
        """Makes all seal numbers so far last."""
        self._notes.flush()

    def crash(self, lost):
        """Drops the last `lost` seal numbers, but none that was flushed."""
        self._notes.crash(lost)

    def orders(self, state):
        """The ready orders for a state, with all its seals."""
        return ready_orders(self._config, self._notary, state, self._name, self._notes.rows())
