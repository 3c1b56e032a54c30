"""Reads a list of calls from its beginning, without changing it."""


class Reader:
    """A list of calls and how far it has been read."""

    def __init__(self, calls):
        self.calls = calls
        self.spot = 0

    def ended(self):
        """Whether all has been read."""
        return self.spot >= len(self.calls)

    def number(self):
        """The number that comes now."""
        found = self.calls[self.spot]
        self.spot = self.spot + 1
        return found

    def row(self):
        """The row that comes now, its count before it; a list of its own."""
        many = self.number()
        start = self.spot
        self.spot = start + many
        return self.calls[start:self.spot]
