"""Reads a list of numbers from its beginning to its end, and leaves it as it is."""


class Reader:
    def __init__(self, numbers):
        self.numbers = numbers
        self.place = 0

    def left(self):
        return len(self.numbers) - self.place

    def one(self):
        number = self.numbers[self.place]
        self.place += 1
        return number

    def several(self, many):
        start = self.place
        self.place += many
        return self.numbers[start:self.place]

    def row(self):
        return self.several(self.one())
