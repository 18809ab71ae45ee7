"""The numbers of a list of calls, taken one behind another."""


class Feed:
    def __init__(self, numbers):
        self.numbers = numbers
        self.at = 0

    def has_more(self):
        return self.at < len(self.numbers)

    def take(self):
        number = self.numbers[self.at]
        self.at += 1
        return number

    def take_row(self):
        many = self.take()
        begin = self.at
        self.at += many
        return self.numbers[begin:self.at]
