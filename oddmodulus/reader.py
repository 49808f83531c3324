"""Walks a list of whole numbers from its front, without changing it."""


class Reader:
    def __init__(self, numbers):
        self.numbers = numbers
        self.place = 0

    def is_done(self):
        return self.place >= len(self.numbers)

    def take(self):
        number = self.numbers[self.place]
        self.place = self.place + 1
        return number

    def take_row(self):
        length = self.take()
        first = self.place
        self.place = first + length
        return self.numbers[first:self.place]
