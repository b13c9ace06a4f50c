"""Reading a list of calls from its front to its end."""


class Reader:
    """Keeps the place in a list of numbers, which it leaves as it is."""

    def __init__(self, numbers):
        self.numbers = numbers
        self.place = 0

    def at_end(self):
        return self.place >= len(self.numbers)

    def take_number(self):
        number = self.numbers[self.place]
        self.place += 1
        return number

    def take_row(self):
        """The numbers of a row, which has how many they are before it."""
        length = self.take_number()
        start = self.place
        self.place = start + length
        return self.numbers[start:self.place]
