"""What is wrong with the lists that a table is to be made of: a kind and a number, 0 and 0 if nothing is."""

from offsettables.layout import FEWEST, MOST_LEVELS, MOST_STATIONS
from offsettables.measures import LARGEST, is_measure


# These two answer the row's length where nothing is wrong: so the lesser of both is the first fault.
def bounds_fault(row, least):
    for k, number in enumerate(row):
        if not is_measure(number, least):
            return k
    return len(row)


def rising_fault(row):
    for k in range(1, len(row)):
        if row[k] <= row[k - 1]:
            return k
    return len(row)


def count_fault(places, heights, half_breadths):
    stations = len(places)
    levels = len(heights)
    breadths = len(half_breadths)
    if stations < FEWEST or stations > MOST_STATIONS:
        return [2, 0]
    if levels < FEWEST or levels > MOST_LEVELS:
        return [2, 1]
    if breadths != stations * levels:
        return [1, breadths]
    return [0, 0]


def number_fault(places, heights, half_breadths):
    place = min(bounds_fault(places, 0), rising_fault(places))
    if place < len(places):
        return [3, place]
    height = min(bounds_fault(heights, -LARGEST), rising_fault(heights))
    if height < len(heights):
        return [4, height]
    breadth = bounds_fault(half_breadths, 0)
    if breadth < len(half_breadths):
        return [5, breadth]
    return [0, 0]


def lists_fault(places, heights, half_breadths):
    fault = count_fault(places, heights, half_breadths)
    if fault != [0, 0]:
        return fault
    return number_fault(places, heights, half_breadths)
