"""Headers of blocks, and somebody who has nothing else of a ledger."""

from vaultbridge.blocks import Blocks
from vaultbridge.errors import ConflictsWithFinal, DuplicateBlock, UnknownParent, WrongNumber
from vaultbridge.tree import check_leaf, root


def header(digests, chain, number):
    """The header of a block."""
    found = ("none",)
    for block in chain.line(number):
        found = header_above(digests, chain, block, found)
    return found


def header_above(digests, chain, number, below):
    """The header of a block, given that of its parent or what stands in its place for the first block."""
    leaves = [digests.number(event) for event in chain.events(number)]
    return (number, digests.number(below), chain.height(number), root(digests, leaves), len(leaves))


class Headers:
    """Headers that were taken in as a ledger takes in blocks. They go by their marks, which are their digests."""

    def __init__(self, config, digests, first):
        self._digests = digests
        mark = digests.number(first)
        self._blocks = Blocks(config.depth(), mark)
        self._by_mark = {mark: first}
        self._held = {first: True}

    def take(self, header):
        """Takes in a header."""
        _, parent, height, _, _ = header
        # its mark is asked for last: an error must leave the table of digests as it is
        if header in self._held:
            raise DuplicateBlock("the header is held")
        if parent not in self._by_mark:
            raise UnknownParent("the header of the parent is not held")
        if height != self._by_mark[parent][2] + 1:
            raise WrongNumber("the height is not that of the parent and one")
        if not self._blocks.is_live(parent):
            raise ConflictsWithFinal("the parent does not lie above the final block")
        mark = self._digests.number(header)
        self._blocks.place(mark, parent)
        self._by_mark[mark] = header
        self._held[header] = True

    def final(self):
        """The mark of the header of the final block."""
        return self._blocks.final()

    def marks(self):
        """The marks of all headers, ascending."""
        return self._blocks.numbers()

    def accepts(self, mark, index, event, paper):
        """True if the paper shows that the event stands at the index in a block on the final line."""
        if mark not in self._blocks.line(self._blocks.final()):
            return False
        _, _, _, events, count = self._by_mark[mark]
        return check_leaf(self._digests, events, count, index, self._digests.number(event), paper)
