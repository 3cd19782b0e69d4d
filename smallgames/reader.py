"""Reading the calls' numbers, one behind another, from a list that stays as it is."""


class Reader:
    """Where in the list the reading has come to."""

    def __init__(self, numbers):
        self.numbers = numbers
        self.place = 0

    def has_more(self):
        return self.place < len(self.numbers)

    def take(self):
        number = self.numbers[self.place]
        self.place += 1
        return number

    def take_row(self):
        length = self.take()
        row = self.numbers[self.place:self.place + length]
        self.place += length
        return row
