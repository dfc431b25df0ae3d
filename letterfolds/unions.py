"""Classes of numbers that are put together step by step."""


class Unions:
    """The numbers below a size in classes, each of which is told by its least number; at first each is alone."""

    def __init__(self, size):
        self.class_count = size
        self._tops = list(range(size))

    def top(self, number):
        """The least number of the class of a number."""
        tops = self._tops
        while tops[number] != number:
            # Each path that is gone is made shorter, so later ones are short.
            tops[number] = tops[tops[number]]
            number = tops[number]
        return number

    def unite(self, one, other):
        """Puts the classes of two numbers together; whether they were two classes."""
        first = self.top(one)
        second = self.top(other)
        if first == second:
            return False
        self._tops[max(first, second)] = min(first, second)
        self.class_count -= 1
        return True

    def all_tops(self):
        """The tuple with, for each number, the least number of its class."""
        return tuple([self.top(number) for number in range(len(self._tops))])
