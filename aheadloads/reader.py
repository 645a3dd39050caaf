"""Takes a list of whole numbers apart, from its beginning to its end."""


class Reader:
    def __init__(self, numbers):
        self.numbers = numbers
        self.place = 0

    def has_more(self):
        return self.place < len(self.numbers)

    def take_number(self):
        number = self.numbers[self.place]
        self.place += 1
        return number

    def take_row(self):
        length = self.take_number()
        start = self.place
        self.place += length
        return self.numbers[start:self.place]
