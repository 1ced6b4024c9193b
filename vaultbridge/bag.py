"""A bag: what is under way from somebody to somebody else."""

from vaultbridge.errors import InvalidArgument


class Bag:
    """Items under way; whoever drives the bridge decides what becomes of each."""

    def __init__(self):
        self._under_way = []

    def post(self, item):
        """Adds an item at the end."""
        self._under_way.append(item)

    def items_under_way(self):
        """A list of the items."""
        return list(self._under_way)

    def hand_over(self, index):
        """Removes an item and returns it."""
        self._check_index(index)
        return self._under_way.pop(index)

    def lose(self, index):
        """Removes an item."""
        self._check_index(index)
        del self._under_way[index]

    def double(self, index):
        """Adds an item once more at the end."""
        self._check_index(index)
        self._under_way.append(self._under_way[index])

    def _check_index(self, index):
        """Raises InvalidArgument if no item has this index."""
        if not 0 <= index < len(self._under_way):
            raise InvalidArgument("no item has this index")
