"""Taking numbers out of a list, one behind another."""


class Reader:
    """A place in a list of numbers; the list itself stays as it is."""

    def __init__(self, numbers):
        self.numbers = numbers
        self.place = 0
        self.ran_short = False

    def left(self):
        """How many numbers are still to be taken."""
        return len(self.numbers) - self.place

    def all_taken(self):
        """Whether just the numbers that are there were taken, none too many."""
        return self.left() == 0 and not self.ran_short

    def take(self):
        """One number; 0 where none is left."""
        if self.left() == 0:
            self.ran_short = True
            return 0
        self.place += 1
        return self.numbers[self.place - 1]

    def take_list(self):
        """A list that is told as how many it has, then they; empty where fewer are left."""
        many = self.take()
        if many < 0 or many > self.left():
            self.ran_short = True
            return []
        self.place += many
        return self.numbers[self.place - many:self.place]

    def take_lists(self):
        """Lists that are told as how many there are, then each of them."""
        many = self.take()
        return [self.take_list() for k in range(many)]
