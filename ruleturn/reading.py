"""Reading calls, number by number, from the list in which they stand."""


class BrokenRow(ValueError):
    """A row is said to have fewer numbers than none, or more than the list still has."""


class CallReader:
    """A list of calls, and how far it has been read."""

    def __init__(self, calls):
        self.calls = calls
        self.reached = 0

    def has_more(self):
        return self.reached < len(self.calls)

    def read_number(self):
        value = self.calls[self.reached]
        self.reached = self.reached + 1
        return value

    def read_row(self):
        length = self.read_number()
        if length < 0 or length > len(self.calls) - self.reached:
            raise BrokenRow(f"a row can't have {length} numbers here")
        start = self.reached
        self.reached = start + length
        return self.calls[start:self.reached]
