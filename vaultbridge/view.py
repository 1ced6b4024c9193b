"""A view: what somebody has seen of a ledger."""

from vaultbridge.blocks import Blocks

FIRST = 0


class View:
    """The blocks of a ledger that were shown. A block waits until its parent is in the tree."""

    def __init__(self, chain):
        self._chain = chain
        self._blocks = Blocks(chain.depth(), FIRST)
        self._waiting = {}

    def show(self, number):
        """Shows a block of the ledger."""
        parent = self._chain.parent(number)
        if self._blocks.has(number):
            return
        self._waiting[number] = parent
        if self._blocks.has(parent):
            self._let_in(number)

    def _let_in(self, number):
        """Puts a block into the tree, and then those that waited for it."""
        ready = [number]
        while ready:
            found = ready.pop()
            self._blocks.place(found, self._waiting.pop(found))
            ready.extend([child for child in self._waiting if self._waiting[child] == found])

    def seen(self):
        """The numbers of the blocks that were shown and do not wait, ascending."""
        return self._blocks.numbers()

    def final(self):
        """The number of the final block of the view."""
        return self._blocks.final()

    def final_events(self):
        """The events of the blocks on the line of the final block, in the order of the line."""
        found = []
        for number in self._blocks.line(self._blocks.final()):
            found.extend(self._chain.events(number))
        return found
