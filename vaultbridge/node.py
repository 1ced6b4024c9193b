"""A node: a ledger that can be made anew from a log."""

from vaultbridge.chain import Chain
from vaultbridge.errors import BridgeError
from vaultbridge.notes import Notes


class Node:
    """Keeps a ledger, and a log of the blocks that it took in, in their order."""

    def __init__(self, side, config, notary):
        self._side = side
        self._config = config
        self._notary = notary
        self._notes = Notes()
        self._chain = Chain(side, config, notary)

    def chain(self):
        """The ledger."""
        return self._chain

    def log(self):
        """A list of the entries, each with the number, the parent and the orders of a block."""
        return self._notes.rows()

    def take_in(self, number, parent, orders):
        """Adds a block to the ledger and to the log."""
        self._chain.add(number, parent, orders)
        self._notes.add((number, parent, orders))

    def flush(self):
        """Makes all entries of the log so far last."""
        self._notes.flush()

    def crash(self, lost):
        """Drops the last `lost` entries of the log, but none that was flushed, and makes the ledger anew."""
        self._notes.crash(lost)
        self._chain = Chain(self._side, self._config, self._notary)
        for number, parent, orders in self._notes.rows():
            self._chain.add(number, parent, orders)

    def copy_from(self, other):
        """Takes in the blocks of another node that this one does not have; returns how many they were."""
        many = 0
        for number, parent, orders in other.log():
            try:
                self.take_in(number, parent, orders)
                many += 1
            except BridgeError:
                # the block is there already, or the ledger refuses it
                continue
        return many
