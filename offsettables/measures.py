"""Measures: whole numbers of sixteenths of an inch, each with one writing."""

LARGEST = 1048575
FOOT = 192
INCH = 16
EIGHTH = 2


# least: some measures may be below 0, others may not.
def is_measure(number, least):
    return least <= number <= LARGEST


def written(measure):
    size = abs(measure)
    sign = "-" if measure < 0 else ""
    feet = size // FOOT
    inches = size % FOOT // INCH
    eighths = size % INCH // EIGHTH
    more = "+" if size % EIGHTH == 1 else ""
    return f"{sign}{feet}-{inches}-{eighths}{more}"
