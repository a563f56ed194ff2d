"""Numbers that are read one behind another."""

from setpress.refusals import WrongList


class Reader:
    """Goes through numbers once, from the first to the last, and leaves them as they are."""

    def __init__(self, numbers):
        self.numbers = numbers
        self.place = 0

    def ended(self):
        return self.place >= len(self.numbers)

    def take(self):
        if self.ended():
            raise WrongList()
        number = self.numbers[self.place]
        self.place += 1
        return number

    def take_row(self):
        """The numbers behind the count of them, as a list of its own."""
        count = self.take()
        begin = self.place
        self.place += count
        return self.numbers[begin:self.place]
