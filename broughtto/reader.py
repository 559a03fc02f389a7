"""Reading a list of whole numbers from its beginning to its end."""


# It only reads the list: what was handed in must stay as it is.
class Reader:
    def __init__(self, numbers):
        self.numbers = numbers
        self.at = 0

    def has_more(self):
        return self.at < len(self.numbers)

    def take(self):
        number = self.numbers[self.at]
        self.at = self.at + 1
        return number

    def take_row(self):
        length = self.take()
        row = self.numbers[self.at:self.at + length]
        self.at = self.at + length
        return row
