"""A ledger: its blocks, and what their orders did."""

from vaultbridge.blocks import Blocks
from vaultbridge.errors import ConflictsWithFinal, DuplicateBlock, UnknownBlock, UnknownParent
from vaultbridge.gateway import after_block, named_seals
from vaultbridge.state import opening_state

FIRST = 0


class Chain:
    """The ledger of one side."""

    def __init__(self, side, config, notary):
        self._config = config
        self._notary = notary
        self._blocks = Blocks(config.depth(), FIRST)
        self._orders = {FIRST: ()}
        self._states = {FIRST: opening_state(config, side)}
        self._receipts = {FIRST: []}
        self._events = {FIRST: []}

    def add(self, number, parent, orders):
        """Takes in a block."""
        if self._blocks.has(number):
            raise DuplicateBlock("there is a block with this number")
        if not self._blocks.has(parent):
            raise UnknownParent("the parent is not known")
        if not self._blocks.is_live(parent):
            raise ConflictsWithFinal("the parent does not lie above the final block")
        for order in orders:
            self._notary.check_seals(named_seals(order))
        state, events, receipts = after_block(self._config, self._notary, self._states[parent], orders)
        self._states[number] = state
        self._events[number] = events
        self._receipts[number] = receipts
        self._orders[number] = orders
        self._blocks.place(number, parent)

    def depth(self):
        """How far below another block a block is deep."""
        return self._config.depth()

    def token_names(self):
        """The names of the tokens, ascending."""
        return self._config.token_names()

    def numbers(self):
        """The numbers of all blocks, ascending."""
        return self._blocks.numbers()

    def parent(self, number):
        """The number of the parent of a block, None for the first one."""
        self._check_block(number)
        return self._blocks.parent(number)

    def height(self, number):
        """The height of a block."""
        self._check_block(number)
        return self._blocks.height(number)

    def orders(self, number):
        """The orders of a block, a tuple."""
        self._check_block(number)
        return self._orders[number]

    def line(self, number):
        """The numbers of the line of a block, the first block first."""
        self._check_block(number)
        return self._blocks.line(number)

    def final(self):
        """The number of the final block."""
        return self._blocks.final()

    def tips(self):
        """The numbers of the live tips, ascending."""
        return self._blocks.live_tips()

    def best(self):
        """The number of the best tip."""
        return self._blocks.best()

    def state(self, number):
        """A state of the caller's own, equal to the one after a block."""
        self._check_block(number)
        return self._states[number].copy()

    def receipts(self, number):
        """The outcomes of the orders of a block."""
        self._check_block(number)
        return list(self._receipts[number])

    def events(self, number):
        """The events of a block."""
        self._check_block(number)
        return list(self._events[number])

    def _check_block(self, number):
        """Raises UnknownBlock if there is no such block."""
        if not self._blocks.has(number):
            raise UnknownBlock("there is no such block")
