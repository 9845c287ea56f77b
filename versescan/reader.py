"""Numbers read one behind another from a list that stays as it is."""


class Reader:
    def __init__(self, numbers):
        self.numbers = numbers
        self.at = 0

    def has_more(self):
        return self.at < len(self.numbers)

    def take(self):
        number = self.numbers[self.at]
        self.at += 1
        return number

    def take_row(self):
        size = self.take()
        row = self.numbers[self.at:self.at + size]
        self.at += size
        return row
