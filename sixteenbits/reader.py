"""Takes a list of calls apart, number by number."""


class Reader:
    """A place in a list of calls that moves on as it is read; the list itself is left as it is."""

    def __init__(self, calls):
        self.calls = calls
        self.place = 0

    def has_more(self):
        """Whether there is a number at the place."""
        return self.place < len(self.calls)

    def take_number(self):
        """The number at the place."""
        number = self.calls[self.place]
        self.place += 1
        return number

    def take_numbers(self):
        """As many numbers as the number at the place says."""
        many = self.take_number()
        first = self.place
        self.place = first + many
        return self.calls[first:self.place]

    def take_lists(self):
        """As many lists as the number at the place says, each with its own count ahead of it."""
        lists = []
        for which in range(self.take_number()):
            lists.append(self.take_numbers())
        return lists
