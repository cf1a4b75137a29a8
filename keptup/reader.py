"""Reads a list of numbers from its beginning to its end, without changing it."""


class Reader:
    """A list of numbers, and how far it is read."""

    def __init__(self, numbers):
        self.numbers = numbers
        self.place = 0

    def is_done(self):
        """Whether all is read."""
        return self.place >= len(self.numbers)

    def take(self):
        """The next number."""
        number = self.numbers[self.place]
        self.place += 1
        return number

    def take_list(self):
        """The next list, as a copy: how many numbers it has stands before it."""
        length = self.take()
        start = self.place
        self.place += length
        return self.numbers[start:self.place]

    def take_lists(self):
        """The next lists: how many there are stands before them."""
        lists = []
        amount = self.take()
        while len(lists) < amount:
            lists.append(self.take_list())
        return lists
