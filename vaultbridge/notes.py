"""A list that is written down from time to time."""


class Notes:
    """Rows in the order in which they came. A crash may drop the last ones, but none that was there at a flush."""

    def __init__(self):
        self._rows = []
        self._flushed = 0

    def add(self, row):
        """Adds a row at the end."""
        self._rows.append(row)

    def rows(self):
        """A list of the rows."""
        return list(self._rows)

    def flush(self):
        """Makes all rows so far last."""
        self._flushed = len(self._rows)

    def crash(self, lost):
        """Drops the last `lost` rows, but none that was flushed."""
        kept = max(self._flushed, len(self._rows) - lost)
        del self._rows[kept:]
