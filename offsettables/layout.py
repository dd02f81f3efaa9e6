"""What a table holds, and how many of each it may hold."""

FEWEST = 2
MOST_STATIONS = 24
MOST_LEVELS = 16


# The half-breadths are one list, level by level, in a level station by station:
# so make is given them, and so numbers gives them back.
class Table:
    def __init__(self, places, heights, half_breadths):
        self.places = places
        self.heights = heights
        self.half_breadths = half_breadths

    # An index below 0 would count from a list's end: it's no level and no station.
    def has_level_and_station(self, level, station):
        return 0 <= level < len(self.heights) and 0 <= station < len(self.places)

    def number_of(self, level, station):
        return level * len(self.places) + station
