"""Taking the calls apart that lie one behind another in one list."""


class Reader:
    """Takes number after number from a list and leaves the list as it is."""

    def __init__(self, calls):
        self.calls = calls
        self.place = 0

    def ended(self):
        """Give back whether all has been taken."""
        return self.place >= len(self.calls)

    def number(self):
        """Take one number."""
        taken = self.calls[self.place]
        self.place += 1
        return taken

    def row(self):
        """Take a row, which has its length before it."""
        length = self.number()
        start = self.place
        self.place += length
        return self.calls[start:self.place]

    def arguments(self, wholes, rows):
        """Take what a call is given: so many whole numbers, then so many rows."""
        taken = []
        for turn in range(wholes):
            taken.append(self.number())
        for turn in range(rows):
            taken.append(self.row())
        return taken
