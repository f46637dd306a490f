"""Reads calls that stand one behind another in one list."""


class CallReader:
    """A place in a list of calls; the list itself is only read."""

    def __init__(self, calls):
        self.calls = calls
        self.place = 0

    def has_more(self):
        """Whether anything is left to read."""
        return self.place < len(self.calls)

    def take_number(self):
        """The next number."""
        number = self.calls[self.place]
        self.place = self.place + 1
        return number

    def take_row(self):
        """The next row, before which stands how many numbers it has."""
        length = self.take_number()
        row = self.calls[self.place:self.place + length]
        self.place = self.place + length
        return row
