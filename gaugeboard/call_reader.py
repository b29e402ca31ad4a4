"""Reading calls from the one list in which they stand one behind another."""

# For each call, by its number: how many numbers it has, and how many rows behind them.
SHAPES = (
    (0, 0), (3, 1), (2, 1), (2, 0), (2, 0), (1, 0), (2, 0),
    (1, 2), (0, 0), (1, 0), (0, 0), (2, 0), (2, 0), (1, 0))


class CallReader:
    """Goes through the list without changing it."""

    def __init__(self, calls):
        self.calls = calls
        self.at = 0

    def has_more(self):
        return self.at < len(self.calls)

    def take_number(self):
        self.at += 1
        return self.calls[self.at - 1]

    def take_row(self):
        length = self.take_number()
        self.at += length
        return self.calls[self.at - length:self.at]

    def take_parts(self, number):
        """The numbers and then the rows of the call with this number."""
        shape = SHAPES[number]
        parts = []
        for i in range(shape[0]):
            parts.append(self.take_number())
        for i in range(shape[1]):
            parts.append(self.take_row())
        return parts
