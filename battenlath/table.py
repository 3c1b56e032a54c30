"""The table of offsets: what makes one, and its lines."""

LARGEST = 1048575
FEWEST = 2
MOST_STATIONS = 24
MOST_LEVELS = 16

BY_LEVEL = 0
BY_STATION = 1


def first_not_rising(numbers, least):
    """The number of the first that is out of bounds or not above the one before; None if there is none."""
    for i, number in enumerate(numbers):
        if number < least or number > LARGEST:
            return i
        if i > 0 and number <= numbers[i - 1]:
            return i
    return None


def first_no_breadth(breadths):
    """The number of the first that is no measure from 0 on; None if there is none."""
    for i, breadth in enumerate(breadths):
        if breadth < 0 or breadth > LARGEST:
            return i
    return None


def verdict(places, heights, breadths):
    """The kind and the number that make answers: 0 and 0 if these are a table, else the first fault."""
    if len(places) < FEWEST or len(places) > MOST_STATIONS:
        return [2, 0]
    if len(heights) < FEWEST or len(heights) > MOST_LEVELS:
        return [2, 1]
    if len(breadths) != len(places) * len(heights):
        return [1, len(breadths)]
    fault = first_not_rising(places, 0)
    if fault is not None:
        return [3, fault]
    fault = first_not_rising(heights, -LARGEST)
    if fault is not None:
        return [4, fault]
    fault = first_no_breadth(breadths)
    if fault is not None:
        return [5, fault]
    return [0, 0]


class Table:
    """A table that verdict has found to be one."""

    def __init__(self, places, heights, breadths):
        self.places = places
        self.heights = heights
        self.breadths = breadths

    def has_line(self, way, k):
        """Whether there is a line k of this way."""
        crossing = self.heights if way == BY_LEVEL else self.places
        return 0 <= k < len(crossing)

    def nail_places(self, way):
        """The x of each nail, the same for all lines of a way."""
        return self.places if way == BY_LEVEL else self.heights

    def nail_breadths(self, way, k):
        """The y of each nail of line k."""
        stations = len(self.places)
        if way == BY_LEVEL:
            return self.breadths[k * stations:(k + 1) * stations]
        return self.breadths[k::stations]
