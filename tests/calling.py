"""How the tests put calls into one list and take the answers apart."""

from offsettables.tables import answers

READ, MAKE, TEXT, NUMBERS, AT, SET, WRITE, VALUE = 1, 2, 3, 4, 5, 6, 7, 8

LARGEST = 1048575
LOWEST_HANDED = -2147483648
HIGHEST_HANDED = 2147483647

SMALL = (b"stations 0-0-0 1-0-0\n"
         b"level -0-6-0: 1-2-3+ 2-4-0\n"
         b"level 0-0-0: 0-0-0 3-4-5+\n")
SMALL_NUMBERS = [0, 2, 2, 0, 192, -96, 0, 192 + 32 + 7, 384 + 64, 0, 651]


def row(numbers):
    numbers = list(numbers)
    return [len(numbers)] + numbers


def read(text):
    return [READ] + row(text)


def make(places, heights, half_breadths):
    return [MAKE] + row(places) + row(heights) + row(half_breadths)


def text():
    return [TEXT]


def numbers():
    return [NUMBERS]


def at(level, station):
    return [AT, level, station]


def set_to(level, station, half_breadth):
    return [SET, level, station, half_breadth]


def write(measure):
    return [WRITE, measure]


def value(text):
    return [VALUE] + row(text)


def apart(given):
    """The answers, one list a call."""
    parted = []
    place = 0
    while place < len(given):
        count = given[place]
        parted.append(given[place + 1:place + 1 + count])
        place += 1 + count
    if place != len(given):
        raise AssertionError(f"counts and answers don't fit: {given}")
    return parted


def ask(*calls):
    handed = [number for call in calls for number in call]
    return apart(answers(handed))


def written(measure):
    """A measure's writing, found by counting feet, inches, eighths off one by one."""
    size = abs(measure)
    feet = inches = eighths = 0
    while size >= 16 * 12:
        feet, size = feet + 1, size - 16 * 12
    while size >= 16:
        inches, size = inches + 1, size - 16
    while size >= 2:
        eighths, size = eighths + 1, size - 2
    sign = "-" if measure < 0 else ""
    return (sign + "-".join(map(str, (feet, inches, eighths))) + "+" * size).encode()


def written_table(places, heights, half_breadths):
    wide = len(places)
    lines = [b" ".join([b"stations"] + [written(place) for place in places])]
    for j, height in enumerate(heights):
        breadths = half_breadths[wide * j:wide * (j + 1)]
        lines.append(b" ".join([b"level " + written(height) + b":"] + [written(b) for b in breadths]))
    return b"".join(line + b"\n" for line in lines)


def plain_lists(stations, levels):
    """The lists of some table with so many stations and levels."""
    return ([192 * i + i % 16 for i in range(stations)],
            [-300 + 97 * j for j in range(levels)],
            [(131 * k) % 1000 for k in range(stations * levels)])
