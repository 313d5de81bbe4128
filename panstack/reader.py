"""Reading calls, one behind another, from one list of whole numbers."""

# For each call by its number: how many whole numbers it has, and how many rows behind them.
SHAPES = (
    (1, 1), (1, 0), (0, 0), (0, 0), (0, 0), (0, 0),
    (0, 1), (0, 2), (0, 1), (2, 0), (2, 0), (0, 0))


class Reader:
    def __init__(self, numbers):
        self.numbers = numbers
        self.place = 0

    def has_more(self):
        return self.place < len(self.numbers)

    def take_number(self):
        number = self.numbers[self.place]
        self.place += 1
        return number

    def take_row(self):
        length = self.take_number()
        row = self.numbers[self.place:self.place + length]
        self.place += length
        return row

    def take_call(self):
        call = [self.take_number()]
        shape = SHAPES[call[0]]
        for step in range(shape[0]):
            call.append(self.take_number())
        for step in range(shape[1]):
            call.append(self.take_row())
        return call
