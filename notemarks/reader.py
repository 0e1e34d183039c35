"""Walking through one list of calls."""


class Reader:
    """Goes through a list of calls from its beginning on, changing nothing."""

    def __init__(self, calls):
        self.calls = calls
        self.at = 0

    def has_more(self):
        """Tell whether a call is left."""
        return self.at < len(self.calls)

    def take(self):
        """Give the number that comes now, and go behind it."""
        number = self.calls[self.at]
        self.at += 1
        return number

    def take_row(self):
        """Give a new list of the row whose length comes now; go behind it."""
        size = self.take()
        row = self.calls[self.at:self.at + size]
        self.at += size
        return row
