"""Walks through the flat list that is handed in, without changing it."""


class Reader:
    def __init__(self, numbers):
        self.numbers = numbers
        self.position = 0

    def is_at_end(self):
        return self.position == len(self.numbers)

    def take_number(self):
        number = self.numbers[self.position]
        self.position = self.position + 1
        return number

    def take_list(self):
        start = self.position + 1
        self.position = start + self.numbers[self.position]
        return self.numbers[start:self.position]
