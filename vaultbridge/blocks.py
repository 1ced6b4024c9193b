"""The tree that the blocks of a ledger form, and which of them are final."""


class Blocks:
    """Blocks by their numbers, with their parents and heights. Who places a block knows that its parent is there."""

    def __init__(self, depth, first):
        self._depth = depth
        self._parents = {first: None}
        self._heights = {first: 0}
        self._tips = {first: True}
        self._final = first

    def has(self, number):
        """True if there is a block with this number."""
        return number in self._heights

    def numbers(self):
        """The numbers of all blocks, ascending."""
        return sorted(self._heights)

    def parent(self, number):
        """The number of the parent of a block, None for the first one."""
        return self._parents[number]

    def height(self, number):
        """The height of a block."""
        return self._heights[number]

    def line(self, number):
        """The numbers of the line of a block, the first block first."""
        found = []
        while number is not None:
            found.append(number)
            number = self._parents[number]
        found.reverse()
        return found

    def place(self, number, parent):
        """Adds a block on its parent."""
        height = self._heights[parent] + 1
        self._parents[number] = parent
        self._heights[number] = height
        self._tips.pop(parent, None)
        self._tips[number] = True
        # one block more makes at most one block more deep: the one that lies `depth` below it
        if height - self._depth > self._heights[self._final]:
            self._final = self._below(number, height - self._depth)

    def final(self):
        """The number of the final block."""
        return self._final

    def is_live(self, number):
        """True if a block is the final one or lies above it."""
        return self._below(number, self._heights[self._final]) == self._final

    def live_tips(self):
        """The numbers of the live tips, ascending."""
        return sorted([number for number in self._tips if self.is_live(number)])

    def best(self):
        """The number of the best tip."""
        # of several highest tips the first one is taken, and they come in ascending order
        return max(self.live_tips(), key=self.height)

    def _below(self, number, height):
        """The block of the line of a block that has this height, or the block itself if it is not so high."""
        while self._heights[number] > height:
            number = self._parents[number]
        return number
