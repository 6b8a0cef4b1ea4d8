"""Reading a list of whole numbers, one behind another."""


class NotWhole(Exception):
    """The list isn't whole what it is to be."""


class Reader:
    """A list of whole numbers, and how far it has been read."""

    def __init__(self, numbers):
        self.numbers = numbers
        self.place = 0

    def at_end(self):
        """Tell whether all numbers have been read."""
        return self.place >= len(self.numbers)

    def take(self):
        """Give the number that comes now."""
        if self.at_end():
            raise NotWhole()
        number = self.numbers[self.place]
        self.place = self.place + 1
        return number

    def take_within(self, low, high):
        """Give the number that comes now, which must be from low to high."""
        number = self.take()
        if number < low or number > high:
            raise NotWhole()
        return number

    def take_list(self):
        """Give a new list: how many numbers it has comes first, then they."""
        count = self.take()
        numbers = []
        for place in range(count):
            numbers.append(self.take())
        return numbers

    def finish(self):
        """Refuse what is left over."""
        if not self.at_end():
            raise NotWhole()
