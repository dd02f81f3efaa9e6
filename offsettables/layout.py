"""What a table holds, and how many of each it may hold."""

FEWEST = 2
MOST_STATIONS = 24
MOST_LEVELS = 16


# The half-breadths are one list, level by level, in a level station by station:
# so make is given them, and so numbers gives them back.
class Table:
    def __init__(self, places, heights, half_breadths):
        self.places = places
        self.heights = heights
        self.half_breadths = half_breadths
