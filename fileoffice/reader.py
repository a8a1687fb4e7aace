"""The numbers that are handed in, taken one behind another."""


class Reader:
    def __init__(self, numbers):
        self.numbers = numbers
        self.place = 0

    def is_at_end(self):
        return self.place == len(self.numbers)

    def take_number(self):
        number = self.numbers[self.place]
        self.place += 1
        return number

    def take_row(self):
        size = self.take_number()
        row = self.numbers[self.place:self.place + size]
        self.place += size
        return row
