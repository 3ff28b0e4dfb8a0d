"""A list of whole numbers, taken from its beginning on."""


class Reader:
    def __init__(self, numbers):
        self.numbers = numbers
        self.place = 0

    def is_done(self):
        return self.place >= len(self.numbers)

    def take_one(self):
        taken = self.numbers[self.place]
        self.place += 1
        return taken

    # A slice is a copy, so what is kept of it never is the list that was handed in.
    def take_some(self, length):
        taken = self.numbers[self.place:self.place + length]
        self.place += length
        return taken

    def take_row(self):
        length = self.take_one()
        return self.take_some(length)
