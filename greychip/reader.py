"""How the calls are read out of the one list in which they stand."""


class Reader:
    """A list of numbers, which is only read, and how far it has been read."""

    def __init__(self, calls):
        self.calls = calls
        self.at = 0

    def has_more(self):
        """Whether something is still to be read."""
        return self.at < len(self.calls)

    def next_number(self):
        """The next number."""
        number = self.calls[self.at]
        self.at = self.at + 1
        return number

    def next_numbers(self, many):
        """So many numbers, as a list of their own."""
        start = self.at
        self.at = start + many
        return self.calls[start:self.at]

    def next_rows(self, many):
        """So many rows; each has how many numbers it has before it."""
        rows = []
        for k in range(many):
            rows.append(self.next_numbers(self.next_number()))
        return rows
