"""Windows over values, and intervals that slide (s1, s2)."""

from windowtable.errors import BadArgument
from windowtable.functions import refuse_function, refuse_texts, told_value
from windowtable.values import compare


class Window:
    """Values in a row, and the value of a function for them."""

    def __init__(self, function):
        refuse_function(function)
        self.function = function
        self.given = []
        # Kept in order all the time, so that no value has to be sorted in more than once.
        self.ascending = []

    def add(self, value):
        """Adds a value behind the others."""
        refuse_texts(self.function, (value,))
        self.given.append(value)
        if value is not None:
            self.ascending.insert(place_of(self.ascending, value), value)

    def drop(self):
        """Takes the first value away."""
        if not self.given:
            raise BadArgument("empty")
        value = self.given.pop(0)
        if value is not None:
            self.ascending.pop(place_of(self.ascending, value))

    def told(self):
        """The value of the function for the values that there are."""
        return told_value(self.function, self.given, self.ascending)

    def size(self):
        """How many values there are."""
        return len(self.given)


def place_of(ascending, value):
    """How many of ascending values come ahead of a value."""
    low = 0
    high = len(ascending)
    while low < high:
        middle = (low + high) // 2
        if compare(ascending[middle], value) < 0:
            low = middle + 1
        else:
            high = middle
    return low


def do_slide(intervals, many):
    """Whether intervals slide over so many values."""
    last_start = 0
    last_end = 0
    for start, end in intervals:
        if start > end or end > many or start < last_start or end < last_end:
            return False
        last_start = start
        last_end = end
    return True


def slide(function, given, intervals):
    """The list of the values of a function for the intervals, pairs of a place and an end, over given values."""
    window = Window(function)
    refuse_texts(function, given)
    if not do_slide(intervals, len(given)):
        raise BadArgument("intervals")
    told = []
    dropped = 0
    added = 0
    for start, end in intervals:
        for value in given[added:end]:
            window.add(value)
        for _ in range(dropped, start):
            window.drop()
        dropped = start
        added = end
        told.append(window.told())
    return told
